/- FnRouted, its walk. -/
import Derived.Test.YthlejmofhcgkdaaDQ
import Derived.Deep.DeepCutAuto
namespace Go.Proofs.Ythlejmofhcgkdaa
open Go Go.RowKit Go.Deep Go.Maps Go.BigFrame

/-- one of the first k is the route -/
def thr (M : List R3) (x y z : Int) : Nat → Bool
  | 0 => false
  | k + 1 => thr M x y z k || ((xf M k == x) && (xg M k == y) && (xh M k == z))
theorem thr_up {M : List R3} {x y z : Int} {i : Nat} (h : at3 M i = (x, y, z)) : ∀ k, i < k → thr M x y z k = true := by
  intro k
  induction k with
  | zero => intro h; omega
  | succ k ih =>
    intro hk
    rw [thr]
    by_cases e : i = k
    · subst e
      have e1 : xf M i = x := by unfold xf; rw [h]
      have e2 : xg M i = y := by unfold xg; rw [h]
      have e3 : xh M i = z := by unfold xh; rw [h]
      rw [e1, e2, e3]
      simp
    · rw [ih (by omega), Bool.true_or]
/-- where Routed answers: a list of its own, with room -/
theorem routedYes {w : World} {b off n cap : Nat} {f g h : Nat → Int} {x y z : Int} (hcap : n ≤ cap) (H : RtsAt w (some ⟨b, off, none⟩) n f g h) (ho : rtsOk n f g h = true) (hr : rOk x y z = true) (hl : (laidAll f g h (x, y, z) n).length ≤ 20) :
    Calls Try.prog 10 #[.slice (some ⟨b, off, none⟩) n cap, .agg #[.int .i64 x, .int .i64 y, .int .i64 z]] w fun e w' => ∃ g' c, e = .returned (.tuple #[.slice (some ⟨g', 0, none⟩) (laidAll f g h (x, y, z) n).length c, .bool true]) ∧ RtsAt w' (some ⟨g', 0, none⟩) (laidAll f g h (x, y, z) n).length (xf (laidAll f g h (x, y, z) n)) (xg (laidAll f g h (x, y, z) n)) (xh (laidAll f g h (x, y, z) n)) ∧ (laidAll f g h (x, y, z) n).length ≤ c ∧ Below w.heap.size w w' :=
  (implRouted_any b off n cap f g h x y z w hcap H ho hr).mono fun e w' ⟨hB, hs⟩ => by
    rcases hs with ⟨_, g', c, he, hO⟩ | ⟨hl', _⟩
    · exact ⟨g', c, he, ownAt hO, own_cap hO, hB⟩
    · omega
theorem specYes {w : World} {a : Option Addr} {n cap : Nat} {f g h : Nat → Int} {x y z : Int} (hn : n ≤ maxLen) (H : RtsAt w a n f g h) (ho : rtsOk n f g h = true) (hr : rOk x y z = true) (hl : (laidAll f g h (x, y, z) n).length ≤ 20) :
    Calls Try.prog 11 #[.slice a n cap, .agg #[.int .i64 x, .int .i64 y, .int .i64 z]] w fun e w' => ∃ g' c, e = .returned (.tuple #[.slice (some ⟨g', 0, none⟩) (laidAll f g h (x, y, z) n).length c, .bool true]) ∧ Below w.heap.size w w' :=
  (specRouted_any a n cap f g h x y z w hn H ho hr).mono fun e w' ⟨hB, hs⟩ => by
    rcases hs with ⟨_, g', c, he, hO⟩ | ⟨hl', _⟩
    · exact ⟨g', c, he, hB⟩
    · omega
theorem bothNo {w : World} {b off n cap : Nat} {f g h : Nat → Int} {x y z : Int} (hcap : n ≤ cap) (hn : n ≤ maxLen) (H : RtsAt w (some ⟨b, off, none⟩) n f g h) (hno : ¬ ((rtsOk n f g h && rOk x y z) = true ∧ (laidAll f g h (x, y, z) n).length ≤ 20)) :
    (Calls Try.prog 10 #[.slice (some ⟨b, off, none⟩) n cap, .agg #[.int .i64 x, .int .i64 y, .int .i64 z]] w fun e w' => e = .returned (.tuple #[.slice none 0 0, .bool false]) ∧ Below w.heap.size w w') ∧
    (Calls Try.prog 11 #[.slice (some ⟨b, off, none⟩) n cap, .agg #[.int .i64 x, .int .i64 y, .int .i64 z]] w fun e w' => e = .returned (.tuple #[.slice none 0 0, .bool false]) ∧ Below w.heap.size w w') := by
  cases ho : (rtsOk n f g h && rOk x y z) with
  | false => exact ⟨implRouted_no _ n cap f g h x y z w hn H ho, specRouted_no _ n cap f g h x y z w hn H ho⟩
  | true =>
    have h2 := ho
    rw [Bool.and_eq_true] at h2
    have hl : ¬ (laidAll f g h (x, y, z) n).length ≤ 20 := fun q => hno ⟨ho, q⟩
    exact ⟨(implRouted_any b off n cap f g h x y z w hcap H h2.1 h2.2).mono fun e w' ⟨hB, hs⟩ => by
        rcases hs with ⟨hl', _⟩ | ⟨_, he⟩
        · exact absurd hl' hl
        · exact ⟨he, hB⟩,
      (specRouted_any _ n cap f g h x y z w hn H h2.1 h2.2).mono fun e w' ⟨hB, hs⟩ => by
        rcases hs with ⟨hl', _⟩ | ⟨_, he⟩
        · exact absurd hl' hl
        · exact ⟨he, hB⟩⟩

set_option maxRecDepth 100000 in
set_option maxHeartbeats 8000000 in
theorem routed_walk (a : Option Addr) (n cap : Nat) (w : World) (hb : BytesAt w a n) : Calls Try.prog 4 #[.slice a n cap] w fun e w' => e = .returned (.bool true) ∧ Below w.heap.size w w' := by
  by_cases hn : n ≤ 1048576
  · have hn' : decide (1048576 < n) = false := decide_eq_false (by omega)
    have P9 := hid (drawRouted_any a n cap w hn hb)
    have P6 := hid (fun W (hW : Below w.heap.size w W) => drawPort_any a n cap W hn (hb.below hW))
    clear hb
    go_enter Try.func4, Try.ntmps4
    go_wp2_with (first
      | (go_at_call 5; refine (big_any a n cap _).mono ?_; rintro e w1 ⟨rfl, hw1⟩; subst w1)
      | (go_at_call 9; refine P9.out.mono ?_; rintro e w1 ⟨X, bb, c, x, y, z, rfl, hX, hR, hc, c1⟩; have D1 := Blk.new w1 (.cells #[.int .i64 x, .int .i64 y, .int .i64 z] 29); have HW : Hid (Below w.heap.size w (w1.alloc (.cells #[.int .i64 x, .int .i64 y, .int .i64 z] 29))) := c1.alloc c1.size _; have HR := hid (RtsAt.below hR ((Below.refl _ w1).alloc (Nat.le_refl _) (.cells #[.int .i64 x, .int .i64 y, .int .i64 z] 29))); clear hR c1))
    clear P9
    generalize (fun i => (at3 X i).1) = f at *
    generalize (fun i => (at3 X i).2.1) = g at *
    generalize (fun i => (at3 X i).2.2) = h at *
    generalize X.length = m at *
    generalize w1.alloc (.cells #[.int .i64 x, .int .i64 y, .int .i64 z] 29) = V at *
    generalize w1.heap.size = P at *
    have hm : m ≤ maxLen := by unfold maxLen; omega
    have HD := hid (fun W (hW : Below V.heap.size V W) => (D1.below hW).three)
    have PL : P < V.heap.size := D1.lt
    clear D1
    by_cases good : (rtsOk m f g h && rOk x y z) = true ∧ (laidAll f g h (x, y, z) m).length ≤ 20
    · obtain ⟨hg, hl⟩ := good
      rw [Bool.and_eq_true] at hg
      obtain ⟨ho, hr⟩ := hg
      obtain ⟨⟨y0, y1, x0, x1, z0, z1⟩, _⟩ := rOk_is hr
      obtain ⟨β, rfl⟩ : ∃ β : Nat, y = (β : Int) := ⟨y.toNat, by omega⟩
      have P10 := hid (routedYes hc HR.out ho hr hl)
      have P11 := hid (fun W (hW : Below V.heap.size V W) => specYes (cap := c) hm (HR.out.below hW) ho hr hl)
      have HRT := hid (laid_right ho hr hl)
      have HAG := hid (laid_again ho hr hl)
      have HPT := hid (fun t ht => laid_port (t := t) ho hr hl rfl ht)
      have MEM := hid ((laid_mem (x := x) (y := (β : Int)) (z := z) ho (x, (β : Int), z)).2 (.inl rfl))
      have HO := hid ho
      have HRR := hid hr
      clear ho hr
      have HPT2 : Hid (∀ t, ¬ (x ≤ t ∧ t < x + 2 ^ (32 - β)) → _) := HPT.out
      clear HPT
      generalize laidAll f g h (x, (β : Int), z) m = M at *
      have hMm : M.length ≤ maxLen := by unfold maxLen; omega
      refine P10.out.mono ?_
      rintro e w2 ⟨b2, c2, rfl, r2, hc2, h2⟩
      obtain ⟨q0, q1, q2⟩ := HD.out _ h2
      have R2 := hid (fun W (hW : Below w2.heap.size w2 W) => r2.below hW)
      clear P10 r2
      go_wp2_with (go_at_call 11; refine (P11.out _ h2).mono ?_; rintro e w3 ⟨b3, c3, rfl, h3⟩; have B3 := hid (then_ h2 h3); have C3 := hid h3; clear h3)
      refine (P6.out _ (then_ HW.out B3.out)).mono ?_
      rintro e w4 ⟨X4, b4, c4, t, rfl, _, _, _, h4⟩
      have B4 := hid (then_ B3.out h4)
      have C4 := hid (then_ C3.out h4)
      clear h4 B3 C3 P6 P11 q0 q1 q2
      obtain ⟨q0, q1, q2⟩ := HD.out _ B4.out
      by_cases ht : 0 ≤ t ∧ t ≤ 4294967295
      · obtain ⟨t0, t1⟩ := ht
        have e0 : decide (t < 0) = false := decide_eq_false (by omega)
        have e1 : decide ((4294967296 : Int) ≤ t) = false := decide_eq_false (by omega)
        obtain ⟨p1, p2⟩ := pow_small (32 - β) (by omega)
        have s1 : (32 - (β : Int)).toNat = 32 - β := by omega
        obtain ⟨inn, hin⟩ : ∃ inn : Bool, inn = (decide (x ≤ t) && decide (t < x + 2 ^ (32 - β))) := ⟨_, rfl⟩
        have HIN : Hid (inn = false → ¬ (x ≤ t ∧ t < x + 2 ^ (32 - β))) := fun e q => by rw [hin, decide_eq_true q.1, decide_eq_true q.2] at e; cases e
        have HI := hid hin
        clear hin
        go_upto_region 11 with fail
        go_cut [11] (fun p wc => p = .bool inn ∧ wc = w4)
        case first =>
          by_cases ca : x ≤ t
          · have da : decide (x ≤ t) = true := decide_eq_true ca
            by_cases cb : t < x + 2 ^ (32 - β)
            · have db : decide (t < x + 2 ^ (32 - β)) = true := decide_eq_true cb
              go_wp2_with fail
              go_meet
              case rel => exact ⟨by rw [HI.out, da, db]; rfl, rfl⟩
            · have db : decide (t < x + 2 ^ (32 - β)) = false := decide_eq_false cb
              go_wp2_with fail
              go_meet
              case rel => exact ⟨by rw [HI.out, da, db]; rfl, rfl⟩
          · have da : decide (x ≤ t) = false := decide_eq_false ca
            go_wp2_with fail
            go_meet
            case rel => exact ⟨by rw [HI.out, da]; rfl, rfl⟩
        case rest =>
          obtain ⟨rfl, rfl⟩ := hcut
          have HR4 := hid (R2.out _ C4.out)
          clear HI
          go_wp2
          go_loopw [12, 13] (fun th i wr => ∃ k : Nat, k ≤ M.length ∧ i = .int .i64 k ∧ th = .bool (thr M x (β : Int) z k) ∧ Below wc.heap.size wc wr) (fun _ i _ => M.length - (intOf i).toNat)
          case atStart => exact ⟨0, Nat.zero_le _, rfl, rfl, Below.refl _ _⟩
          case round =>
            obtain ⟨k, hk, rfl, rfl, hB⟩ := hrel
            by_cases hlt' : k < M.length
            · obtain ⟨b, off, e, hlt, hcc⟩ := HR4.out (by omega)
              obtain ⟨d1, d2, d3⟩ := hcc k hlt'
              obtain ⟨rfl, rfl⟩ : b = b2 ∧ off = 0 := by have := Option.some.inj e; simp only [Addr.mk.injEq] at this; exact ⟨this.1.symm, this.2.1.symm⟩
              clear e
              have zz : b < wr.heap.size := Nat.lt_of_lt_of_le hlt hB.size
              have pz : P < wr.heap.size := Nat.lt_of_lt_of_le PL (Nat.le_trans B4.out.size hB.size)
              have pw : P < wc.heap.size := Nat.lt_of_lt_of_le PL B4.out.size
              simp only [Nat.zero_add] at d1 d2 d3
              have u1 := up_cell zz ((hB.cell (p := ⟨b, _, none⟩) hlt).trans d1)
              have u2 := up_cell zz ((hB.cell (p := ⟨b, _, none⟩) hlt).trans d2)
              have u3 := up_cell zz ((hB.cell (p := ⟨b, _, none⟩) hlt).trans d3)
              have v1 := up_cell pz ((hB.cell (p := ⟨P, _, none⟩) pw).trans q0)
              have v2 := up_cell pz ((hB.cell (p := ⟨P, _, none⟩) pw).trans q1)
              have v3 := up_cell pz ((hB.cell (p := ⟨P, _, none⟩) pw).trans q2)
              have i1 : (k : Int) < (M.length : Int) := by omega
              have TK : Hid (thr M x (β : Int) z (k + 1) = (thr M x (β : Int) z k || ((xf M k == x) && (xg M k == (β : Int)) && (xh M k == z)))) := rfl
              clear d1 d2 d3 hcc HR4 HD q0 q1 q2
              cases hth : thr M x (β : Int) z k with
              | true =>
                have TK' : Hid (thr M x (β : Int) z (k + 1) = true) := by show _ = _; rw [TK.out, hth, Bool.true_or]
                go_wp2
                refine wp_region_quiet_up (by kernel_rfl) (by kernel_rfl) ?_
                repeat (go_big_quiet_step (fail))
                refine wpQuiet_nil ?_
                rintro _ ⟨p, rfl⟩
                go_wp2
                exact ⟨⟨k + 1, by omega, rfl, by rw [TK'.out], then_ hB p.h⟩, by simp [intOf]; omega⟩
              | false =>
                have TK' : Hid (thr M x (β : Int) z (k + 1) = ((xf M k == x) && (xg M k == (β : Int)) && (xh M k == z))) := by show _ = _; rw [TK.out, hth, Bool.false_or]
                have EQ := run_eql_route
                have EG := eqg
                generalize xf M k = F at *
                generalize xg M k = G at *
                generalize xh M k = H at *
                go_wp2
                refine wp_region_quiet_up (by kernel_rfl) (by kernel_rfl) ?_
                repeat (go_big_quiet_step (fail))
                refine wpQuiet_nil ?_
                rintro _ ⟨p, rfl⟩
                go_wp2
                exact ⟨⟨k + 1, by omega, rfl, by rw [TK'.out], then_ hB p.h⟩, by simp [intOf]; omega⟩
            · have ek : k = M.length := by omega
              subst ek
              obtain ⟨i, hi, ei⟩ := List.getElem_of_mem MEM.out
              have ea : at3 M i = (x, (β : Int), z) := by rw [at3_get hi]; exact ei
              have hth : thr M x (β : Int) z M.length = true := thr_up ea _ hi
              have hax : hasR (xf M) (xg M) x i := by
                unfold hasR
                have e1 : xf M i = x := by unfold xf; rw [ea]
                rw [e1]
              have hpos := port_pos x HRT.out hi hax
              have BW := hid (then_ B4.out hB)
              have HRW := hid (fun W (hW : Below wr.heap.size wr W) => R2.out W (then_ C4.out (then_ hB hW)))
              have HLW := hid (fun W (hW : Below wr.heap.size wr W) => HR.out.below (then_ B4.out (then_ hB hW)))
              have HDW := hid (fun W (hW : Below wr.heap.size wr W) => HD.out W (then_ B4.out (then_ hB hW)))
              obtain ⟨k0, k1, k2⟩ := HDW.out _ (Below.refl _ _)
              have P10 := hid (routedYes hc2 (HRW.out _ (Below.refl _ _)) HRT.out HRR.out (by rw [HAG.out]; exact hl))
              rw [HAG.out] at P10
              have P12 := hid (fun W hW => implRoutes_any (some ⟨b2, 0, none⟩) M.length c2 _ _ _ W hMm (HRW.out W hW))
              rw [HRT.out] at P12
              have P7 := hid (fun u W hW => implPort_any (some ⟨b2, 0, none⟩) M.length c2 _ _ _ u W hMm (HRW.out W hW))
              have P7l := hid (fun u W hW => implPort_any (some ⟨bb, 0, none⟩) m c _ _ _ u W hm (HLW.out W hW))
              have eM : ∀ u, 0 ≤ u → u ≤ 4294967295 → portR M.length (xf M) (xg M) (xh M) u = (best (xf M) (xg M) (xh M) u M.length).2 := fun u h0 h1 => by rw [portR, HRT.out, isA, decide_eq_true ⟨h0, h1⟩]; rfl
              have eL : portR m f g h t = (best f g h t m).2 := by rw [portR, HO.out, isA, decide_eq_true ⟨t0, t1⟩]; rfl
              have P7x := hid (P7.out x)
              rw [eM x x0 x1] at P7x
              have P7t := hid (P7.out t)
              rw [eM t t0 t1] at P7t
              have P7lt := hid (P7l.out t)
              rw [eL] at P7lt
              have dpos : decide (0 < (best (xf M) (xg M) (xh M) x M.length).2) = true := decide_eq_true hpos
              clear P7 P7l eM eL ea hax hi ei q0 q1 q2 HD hpos
              generalize (best (xf M) (xg M) (xh M) x M.length).2 = PX at *
              cases inn with
              | true =>
                clear P7t P7lt HPT2 HIN
                go_wp2_with (first
                  | (go_at_call 10; refine P10.out.mono ?_; rintro e w5 ⟨b5, c5, rfl, _, _, h5⟩; have B5 := hid h5; obtain ⟨l0, l1, l2⟩ := HDW.out _ h5; clear h5)
                  | (go_at_call 12; refine (P12.out _ B5.out).mono ?_; rintro e w6 ⟨rfl, h6⟩; have B6 := hid (then_ B5.out h6); obtain ⟨m0, m1, m2⟩ := HDW.out _ B6.out; clear h6)
                  | (go_at_call 7; refine (P7x.out _ B6.out).mono ?_; rintro e w7 ⟨rfl, h7⟩; have B7 := hid (then_ B6.out h7); clear h7))
                go_ret
                exact ⟨rfl, then_ HW.out (then_ BW.out B7.out)⟩
              | false =>
                have ep := HPT2.out t (HIN.out rfl)
                rw [ep] at P7t
                clear ep HPT2 HIN
                generalize (best f g h t m).2 = PT at *
                go_wp2_with (first
                  | (go_at_call 10; refine P10.out.mono ?_; rintro e w5 ⟨b5, c5, rfl, _, _, h5⟩; have B5 := hid h5; obtain ⟨l0, l1, l2⟩ := HDW.out _ h5; clear h5)
                  | (go_at_call 12; refine (P12.out _ B5.out).mono ?_; rintro e w6 ⟨rfl, h6⟩; have B6 := hid (then_ B5.out h6); clear h6)
                  | (go_at_call 7; have mk' := mk2; refine (P7x.out _ B8.out).mono ?_; rintro e w9 ⟨rfl, h9⟩; have B9 := hid (then_ B8.out h9); clear h9)
                  | (go_at_call 7; have mk' := mk1; refine (P7lt.out _ B7.out).mono ?_; rintro e w8 ⟨rfl, h8⟩; have B8 := hid (then_ B7.out h8); obtain ⟨m0, m1, m2⟩ := HDW.out _ B8.out; have mk2 : True := trivial; clear h8)
                  | (go_at_call 7; refine (P7t.out _ B6.out).mono ?_; rintro e w7 ⟨rfl, h7⟩; have B7 := hid (then_ B6.out h7); have mk1 : True := trivial; clear h7))
                go_ret
                exact ⟨rfl, then_ HW.out (then_ BW.out B9.out)⟩
      · have P12 := hid (implRoutes_any (some ⟨b2, 0, none⟩) M.length c2 _ _ _ w4 hMm (R2.out _ C4.out))
        rw [HRT.out] at P12
        by_cases t0 : t < 0
        · have e0 : decide (t < 0) = true := decide_eq_true t0
          clear HD q0 q1 q2 HAG HPT2
          go_wp2_with (go_at_call 12; refine P12.out.mono ?_; rintro e w5 ⟨rfl, h5⟩)
          go_ret
          exact ⟨rfl, then_ HW.out (then_ B4.out h5)⟩
        · have e0 : decide (t < 0) = false := decide_eq_false t0
          have e1 : decide ((4294967296 : Int) ≤ t) = true := decide_eq_true (by omega)
          clear HD q0 q1 q2 HAG HPT2
          go_wp2_with (go_at_call 12; refine P12.out.mono ?_; rintro e w5 ⟨rfl, h5⟩)
          go_ret
          exact ⟨rfl, then_ HW.out (then_ B4.out h5)⟩
    · obtain ⟨p1, p2⟩ := bothNo hc hm HR.out good
      have P11 := hid (fun W (hW : Below V.heap.size V W) => (bothNo hc hm (HR.out.below hW) good).2)
      have P10 := hid p1
      clear p1 p2 good
      refine P10.out.mono ?_
      rintro e w2 ⟨rfl, h2⟩
      obtain ⟨q0, q1, q2⟩ := HD.out _ h2
      go_wp2_with (go_at_call 11; refine (P11.out _ h2).mono ?_; rintro e w3 ⟨rfl, h3⟩)
      go_ret
      exact ⟨rfl, then_ HW.out (then_ h2 h3)⟩
  · have hn' : decide (1048576 < n) = true := decide_eq_true (by omega)
    clear hb
    go_enter Try.func4, Try.ntmps4
    go_wp2_with (go_at_call 5; refine (big_any a n cap _).mono ?_; rintro e w1 ⟨rfl, hw1⟩; subst w1)
    go_ret
    exact ⟨rfl, Below.refl _ _⟩
end Go.Proofs.Ythlejmofhcgkdaa
