/- Routed of the model. -/
import Derived.Test.YthlejmofhcgkdaaROPC
namespace Go.Proofs.Ythlejmofhcgkdaa
open Go Go.RowKit Go.Deep Go.BigFrame Go.Maps

/-- what is laid after k routes, and whether the new one is among it -/
def laid (f g h : Nat → Int) (r : R3) : Nat → List R3 × Bool
  | 0 => ([], false)
  | k + 1 =>
    let s := laid f g h r k
    let c := !s.2 && (decide (r.1 < f k) || (f k == r.1 && decide (r.2.1 ≤ g k)))
    let l := if c then s.1 ++ [r] else s.1
    (if (f k != r.1 || g k != r.2.1) then l ++ [(f k, g k, h k)] else l, s.2 || c)
def laidAll (f g h : Nat → Int) (r : R3) (n : Nat) : List R3 := if (laid f g h r n).2 then (laid f g h r n).1 else (laid f g h r n).1 ++ [r]
theorem laid_len (f g h : Nat → Int) (r : R3) (k : Nat) : (laid f g h r k).1.length ≤ 2 * k := by
  induction k with
  | zero => simp [laid]
  | succ k ih =>
    simp only [laid]
    split <;> split <;> (try simp only [List.length_append, List.length_cons, List.length_nil]) <;> omega
def rtd (n : Nat) (f g h : Nat → Int) (r : R3) : Option (List R3) := if (rtsOk n f g h && rOk r.1 r.2.1 r.2.2) = true then (if (laidAll f g h r n).length ≤ 20 then some (laidAll f g h r n) else none) else none

def RtdIs (w : World) (l : List R3) (e : Ending) (w' : World) : Prop :=
  (l.length ≤ 20 ∧ ∃ g' c, e = .returned (.tuple #[.slice (some ⟨g', 0, none⟩) l.length c, .bool true]) ∧ OwnR w' w.heap.size (.slice (some ⟨g', 0, none⟩) l.length c) l) ∨ (20 < l.length ∧ e = .returned (.tuple #[.slice none 0 0, .bool false]))
theorem OwnR.mono {w : World} {B B' : Nat} {v : Value} {l : List R3} (h : OwnR w B v l) (hb : B' ≤ B) : OwnR w B' v l := by
  refine ⟨h.1, ?_⟩
  rcases h.2 with h1 | ⟨g, cap, cur, h1, h2, h3⟩
  · exact .inl h1
  · exact .inr ⟨g, cap, cur, h1, Nat.le_trans hb h2, h3⟩
theorem RtdIs.yes {w w' : World} {l : List R3} {g' c : Nat} (h : l.length ≤ 20) (o : OwnR w' w.heap.size (.slice (some ⟨g', 0, none⟩) l.length c) l) : RtdIs w l (.returned (.tuple #[.slice (some ⟨g', 0, none⟩) l.length c, .bool true])) w' := .inl ⟨h, g', c, rfl, o⟩
theorem RtdIs.no {w w' : World} {l : List R3} (h : 20 < l.length) : RtdIs w l (.returned (.tuple #[.slice none 0 0, .bool false])) w' := .inr ⟨h, rfl⟩
set_option maxRecDepth 100000 in
set_option maxHeartbeats 4000000 in
set_option linter.unusedSimpArgs false in
theorem specRouted_any (a : Option Addr) (n cap : Nat) (f g h : Nat → Int) (x y z : Int) (w : World) (hn : n ≤ maxLen) (H : RtsAt w a n f g h) (ho : rtsOk n f g h = true) (hr : rOk x y z = true) :
    Calls Try.prog 11 #[.slice a n cap, .agg #[.int .i64 x, .int .i64 y, .int .i64 z]] w fun e w' => Below w.heap.size w w' ∧
      RtdIs w (laidAll f g h (x, y, z) n) e w' := by
  have n20 := rts_n ho
  have L0 := (Below.refl _ w).alloc (Nat.le_refl _) (.cells #[.int .i64 x, .int .i64 y, .int .i64 z] 29)
  have hv : w.heap.size < (w.alloc (.cells #[.int .i64 x, .int .i64 y, .int .i64 z] 29)).heap.size := by rw [World.size_alloc]; omega
  have V1 := hid (up_cell hv (show (w.alloc (.cells #[.int .i64 x, .int .i64 y, .int .i64 z] 29)).cell? ⟨w.heap.size, 0, none⟩ = some (.int .i64 x) by simp))
  have V2 := hid (up_cell hv (show (w.alloc (.cells #[.int .i64 x, .int .i64 y, .int .i64 z] 29)).cell? ⟨w.heap.size, 1, none⟩ = some (.int .i64 y) by simp))
  have V3 := hid (up_cell hv (show (w.alloc (.cells #[.int .i64 x, .int .i64 y, .int .i64 z] 29)).cell? ⟨w.heap.size, 2, none⟩ = some (.int .i64 z) by simp))
  have F7 := hid (specRoutes_any a n cap f g h _ hn (H.below L0))
  have F18 := hid (fun w => l8Ok_any x y z w)
  rw [ho] at F7
  rw [hr] at F18
  have HH := hid H
  have HL0 := hid L0
  have HV := hid hv
  clear H L0 hv ho hr
  go_enter Try.func11, Try.ntmps11
  go_wp2_with (first
    | (go_at_call 32; refine (F18.out _).mono ?_; rintro e w2 ⟨rfl, h2⟩)
    | (go_at_call 24; refine F7.out.mono ?_; rintro e w1 ⟨rfl, h1⟩; have q1 := V1.out ⟨w1, h1⟩; have q2 := V2.out ⟨w1, h1⟩; have q3 := V3.out ⟨w1, h1⟩))
  have h12 := then_ h1 h2
  replace V1 := hid (up_cell (Nat.lt_of_lt_of_le HV.out h12.size) (V1.out ⟨w2, h12⟩))
  replace V2 := hid (up_cell (Nat.lt_of_lt_of_le HV.out h12.size) (V2.out ⟨w2, h12⟩))
  replace V3 := hid (up_cell (Nat.lt_of_lt_of_le HV.out h12.size) (V3.out ⟨w2, h12⟩))
  have B02 := hid (then_ HL0.out h12)
  have H2 := HH.out.below B02.out
  have O0 := hid (OwnR.none w2)
  have K0 := hid ((Below.refl _ w2).alloc (Nat.le_refl _) (.cells #[] 29))
  clear F7 F18 h12 h1 h2 q1 q2 q3
  go_loopw [6, 7, 8] (fun v d i wr => ∃ (k g' c : Nat), k ≤ n ∧ i = .int .i64 k ∧ d = .bool (laid f g h (x, y, z) k).2 ∧ v = .slice (some ⟨g', 0, none⟩) (laid f g h (x, y, z) k).1.length c ∧ OwnR wr w2.heap.size (.slice (some ⟨g', 0, none⟩) (laid f g h (x, y, z) k).1.length c) (laid f g h (x, y, z) k).1 ∧ Below w2.heap.size w2 wr) (fun _ _ i _ => n - (intOf i).toNat)
  case atStart => exact ⟨0, w2.heap.size, 0, Nat.zero_le _, rfl, rfl, rfl, O0.out, K0.out⟩
  case round =>
    obtain ⟨k, g0, c0, hk, rfl, rfl, rfl, O', hB⟩ := hrel
    have lm0 := laid_len f g h (x, y, z) k
    rcases hs : laid f g h (x, y, z) k with ⟨L, d⟩
    rw [hs] at O' lm0
    have lm : L.length ≤ 998 := by simp only [] at lm0; omega
    have O : Hid (OwnR wr w2.heap.size (.slice (some ⟨g0, 0, none⟩) L.length c0) L) := O'
    have HS := hid hs
    clear O' lm0 hs
    by_cases hlt : k < n
    · obtain ⟨b, off, rfl, hb, hc⟩ := H2 (by omega)
      obtain ⟨e1, e2, e3⟩ := hc k hlt
      have U1 := hid (up_cell hb e1)
      have U2 := hid (up_cell hb e2)
      have U3 := hid (up_cell hb e3)
      clear hc e1 e2 e3 H2
      cases d with
      | true =>
        by_cases c1 : f k = x
        · by_cases c2 : g k = y
          · have d2 : (f k == x) = true := beq_iff_eq.2 c1
            have d2' : (f k != x) = false := by rw [bne, d2]; rfl
            have d4 : (g k == y) = true := beq_iff_eq.2 c2
            have d4' : (g k != y) = false := by rw [bne, d4]; rfl
            have EE : Hid (laid f g h (x, y, z) (k + 1) = (L, true)) := by show _ = _; simp [laid, HS.out, c1, c2]
            clear c1 c2
            have u1 : ∀ p : Up wr, p.W.cell? ⟨b, off + k * 3, none⟩ = some (.int .i64 (f k)) := fun p => U1.out ⟨p.W, then_ hB p.h⟩
            have u2 : ∀ p : Up wr, p.W.cell? ⟨b, off + k * 3 + 1, none⟩ = some (.int .i64 (g k)) := fun p => U2.out ⟨p.W, then_ hB p.h⟩
            have u3 : ∀ p : Up wr, p.W.cell? ⟨b, off + k * 3 + 2, none⟩ = some (.int .i64 (h k)) := fun p => U3.out ⟨p.W, then_ hB p.h⟩
            have v1 : ∀ p : Up wr, p.W.cell? ⟨w.heap.size, 0, none⟩ = some (.int .i64 x) := fun p => V1.out ⟨p.W, then_ hB p.h⟩
            have v2 : ∀ p : Up wr, p.W.cell? ⟨w.heap.size, 1, none⟩ = some (.int .i64 y) := fun p => V2.out ⟨p.W, then_ hB p.h⟩
            have v3 : ∀ p : Up wr, p.W.cell? ⟨w.heap.size, 2, none⟩ = some (.int .i64 z) := fun p => V3.out ⟨p.W, then_ hB p.h⟩
            go_wp2
            refine wp_region_quiet_up (by kernel_rfl) (by kernel_rfl) ?_
            repeat (go_big_quiet_step (fail))
            refine wpQuiet_nil ?_
            rintro _ ⟨P, rfl⟩
            have OP := hid (O.out.below P.h)
            have BP := hid (then_ hB P.h)
            go_wp2
            have u1' : ∀ p : Up P.W, p.W.cell? ⟨b, off + k * 3, none⟩ = some (.int .i64 (f k)) := fun p => U1.out ⟨p.W, then_ BP.out p.h⟩
            have u2' : ∀ p : Up P.W, p.W.cell? ⟨b, off + k * 3 + 1, none⟩ = some (.int .i64 (g k)) := fun p => U2.out ⟨p.W, then_ BP.out p.h⟩
            have u3' : ∀ p : Up P.W, p.W.cell? ⟨b, off + k * 3 + 2, none⟩ = some (.int .i64 (h k)) := fun p => U3.out ⟨p.W, then_ BP.out p.h⟩
            have v1' : ∀ p : Up P.W, p.W.cell? ⟨w.heap.size, 0, none⟩ = some (.int .i64 x) := fun p => V1.out ⟨p.W, then_ BP.out p.h⟩
            have v2' : ∀ p : Up P.W, p.W.cell? ⟨w.heap.size, 1, none⟩ = some (.int .i64 y) := fun p => V2.out ⟨p.W, then_ BP.out p.h⟩
            have v3' : ∀ p : Up P.W, p.W.cell? ⟨w.heap.size, 2, none⟩ = some (.int .i64 z) := fun p => V3.out ⟨p.W, then_ BP.out p.h⟩
            refine wp_region_quiet_up (by kernel_rfl) (by kernel_rfl) ?_
            repeat (go_big_quiet_step (fail))
            refine wpQuiet_nil ?_
            rintro _ ⟨P', rfl⟩
            have OP' := hid (OP.out.below P'.h)
            have BP' := hid (then_ BP.out P'.h)
            go_wp2
            have EN : laid f g h (x, y, z) (k + 1) = (L, true) := by exact EE.out
            exact ⟨⟨k + 1, g0, c0, by omega, rfl, by rw [EN], by rw [EN], by rw [EN]; exact OP'.out, BP'.out⟩, by simp [intOf]; omega⟩
          · have d2 : (f k == x) = true := beq_iff_eq.2 c1
            have d2' : (f k != x) = false := by rw [bne, d2]; rfl
            have d4 : (g k == y) = false := beq_eq_false_iff_ne.2 c2
            have d4' : (g k != y) = true := by rw [bne, d4]; rfl
            have EE : Hid (laid f g h (x, y, z) (k + 1) = (L ++ [(f k, g k, h k)], true)) := by show _ = _; simp [laid, HS.out, c1, c2]
            clear c1 c2
            have u1 : ∀ p : Up wr, p.W.cell? ⟨b, off + k * 3, none⟩ = some (.int .i64 (f k)) := fun p => U1.out ⟨p.W, then_ hB p.h⟩
            have u2 : ∀ p : Up wr, p.W.cell? ⟨b, off + k * 3 + 1, none⟩ = some (.int .i64 (g k)) := fun p => U2.out ⟨p.W, then_ hB p.h⟩
            have u3 : ∀ p : Up wr, p.W.cell? ⟨b, off + k * 3 + 2, none⟩ = some (.int .i64 (h k)) := fun p => U3.out ⟨p.W, then_ hB p.h⟩
            have v1 : ∀ p : Up wr, p.W.cell? ⟨w.heap.size, 0, none⟩ = some (.int .i64 x) := fun p => V1.out ⟨p.W, then_ hB p.h⟩
            have v2 : ∀ p : Up wr, p.W.cell? ⟨w.heap.size, 1, none⟩ = some (.int .i64 y) := fun p => V2.out ⟨p.W, then_ hB p.h⟩
            have v3 : ∀ p : Up wr, p.W.cell? ⟨w.heap.size, 2, none⟩ = some (.int .i64 z) := fun p => V3.out ⟨p.W, then_ hB p.h⟩
            go_wp2
            refine wp_region_quiet_up (by kernel_rfl) (by kernel_rfl) ?_
            repeat (go_big_quiet_step (fail))
            refine wpQuiet_nil ?_
            rintro _ ⟨P, rfl⟩
            have OP := hid (O.out.below P.h)
            have BP := hid (then_ hB P.h)
            go_wp2
            have u1' : ∀ p : Up P.W, p.W.cell? ⟨b, off + k * 3, none⟩ = some (.int .i64 (f k)) := fun p => U1.out ⟨p.W, then_ BP.out p.h⟩
            have u2' : ∀ p : Up P.W, p.W.cell? ⟨b, off + k * 3 + 1, none⟩ = some (.int .i64 (g k)) := fun p => U2.out ⟨p.W, then_ BP.out p.h⟩
            have u3' : ∀ p : Up P.W, p.W.cell? ⟨b, off + k * 3 + 2, none⟩ = some (.int .i64 (h k)) := fun p => U3.out ⟨p.W, then_ BP.out p.h⟩
            have v1' : ∀ p : Up P.W, p.W.cell? ⟨w.heap.size, 0, none⟩ = some (.int .i64 x) := fun p => V1.out ⟨p.W, then_ BP.out p.h⟩
            have v2' : ∀ p : Up P.W, p.W.cell? ⟨w.heap.size, 1, none⟩ = some (.int .i64 y) := fun p => V2.out ⟨p.W, then_ BP.out p.h⟩
            have v3' : ∀ p : Up P.W, p.W.cell? ⟨w.heap.size, 2, none⟩ = some (.int .i64 z) := fun p => V3.out ⟨p.W, then_ BP.out p.h⟩
            refine wp_region_quiet_up (by kernel_rfl) (by kernel_rfl) ?_
            repeat (go_big_quiet_step (fail))
            refine wpQuiet_nil ?_
            rintro _ ⟨P', rfl⟩
            have OP' := hid (OP.out.below P'.h)
            have BP' := hid (then_ BP.out P'.h)
            have HO4 := hid (OP'.out.alloc (.cells #[.int .i64 (f k), .int .i64 (g k), .int .i64 (h k)] 29))
            have HL4 := hid (one_rt (w := P'.W) (f k, g k, h k))
            have sz4 := hid (Nat.le_trans BP'.out.size (show P'.W.heap.size ≤ (P'.W.alloc (.cells #[.int .i64 (f k), .int .i64 (g k), .int .i64 (h k)] 29)).heap.size by rw [World.size_alloc]; omega))
            have q4 := u1' P'
            have q5 := u2' P'
            have q6 := u3' P'
            go_wp2_with (at_builtin; refine wpList_append_rt _ rfl _ _ rfl w2.heap.size _ L rfl HO4.out _ 1 (f k, g k, h k) rfl HL4.out (Nat.le_trans lm (by decide)) sz4.out ?_; intro g4 c4 w4 O4 hg4; generalize hX4 : L ++ [(f k, g k, h k)] = X4 at O4 ⊢; have EX4 := hid hX4; have OX4 := hid O4; have GX4 := hid hg4; clear hX4 O4 hg4)
            have B4 : Below w2.heap.size w2 w4 := (BP'.out.alloc BP'.out.size (.cells #[.int .i64 (f k), .int .i64 (g k), .int .i64 (h k)] 29)).trans (below_grown GX4.out sz4.out (fun j hj => (World.ownsRow.lt HO4.out j hj).1))
            have EN : laid f g h (x, y, z) (k + 1) = (X4, true) := by rw [← EX4.out]; exact EE.out
            exact ⟨⟨k + 1, g4, c4, by omega, rfl, by rw [EN], by rw [EN], by rw [EN]; exact OX4.out, B4⟩, by simp [intOf]; omega⟩
        · have d2 : (f k == x) = false := beq_eq_false_iff_ne.2 c1
          have d2' : (f k != x) = true := by rw [bne, d2]; rfl
          have EE : Hid (laid f g h (x, y, z) (k + 1) = (L ++ [(f k, g k, h k)], true)) := by show _ = _; simp [laid, HS.out, c1]
          clear c1
          have u1 : ∀ p : Up wr, p.W.cell? ⟨b, off + k * 3, none⟩ = some (.int .i64 (f k)) := fun p => U1.out ⟨p.W, then_ hB p.h⟩
          have u2 : ∀ p : Up wr, p.W.cell? ⟨b, off + k * 3 + 1, none⟩ = some (.int .i64 (g k)) := fun p => U2.out ⟨p.W, then_ hB p.h⟩
          have u3 : ∀ p : Up wr, p.W.cell? ⟨b, off + k * 3 + 2, none⟩ = some (.int .i64 (h k)) := fun p => U3.out ⟨p.W, then_ hB p.h⟩
          have v1 : ∀ p : Up wr, p.W.cell? ⟨w.heap.size, 0, none⟩ = some (.int .i64 x) := fun p => V1.out ⟨p.W, then_ hB p.h⟩
          have v2 : ∀ p : Up wr, p.W.cell? ⟨w.heap.size, 1, none⟩ = some (.int .i64 y) := fun p => V2.out ⟨p.W, then_ hB p.h⟩
          have v3 : ∀ p : Up wr, p.W.cell? ⟨w.heap.size, 2, none⟩ = some (.int .i64 z) := fun p => V3.out ⟨p.W, then_ hB p.h⟩
          go_wp2
          refine wp_region_quiet_up (by kernel_rfl) (by kernel_rfl) ?_
          repeat (go_big_quiet_step (fail))
          refine wpQuiet_nil ?_
          rintro _ ⟨P, rfl⟩
          have OP := hid (O.out.below P.h)
          have BP := hid (then_ hB P.h)
          go_wp2
          have u1' : ∀ p : Up P.W, p.W.cell? ⟨b, off + k * 3, none⟩ = some (.int .i64 (f k)) := fun p => U1.out ⟨p.W, then_ BP.out p.h⟩
          have u2' : ∀ p : Up P.W, p.W.cell? ⟨b, off + k * 3 + 1, none⟩ = some (.int .i64 (g k)) := fun p => U2.out ⟨p.W, then_ BP.out p.h⟩
          have u3' : ∀ p : Up P.W, p.W.cell? ⟨b, off + k * 3 + 2, none⟩ = some (.int .i64 (h k)) := fun p => U3.out ⟨p.W, then_ BP.out p.h⟩
          have v1' : ∀ p : Up P.W, p.W.cell? ⟨w.heap.size, 0, none⟩ = some (.int .i64 x) := fun p => V1.out ⟨p.W, then_ BP.out p.h⟩
          have v2' : ∀ p : Up P.W, p.W.cell? ⟨w.heap.size, 1, none⟩ = some (.int .i64 y) := fun p => V2.out ⟨p.W, then_ BP.out p.h⟩
          have v3' : ∀ p : Up P.W, p.W.cell? ⟨w.heap.size, 2, none⟩ = some (.int .i64 z) := fun p => V3.out ⟨p.W, then_ BP.out p.h⟩
          refine wp_region_quiet_up (by kernel_rfl) (by kernel_rfl) ?_
          repeat (go_big_quiet_step (fail))
          refine wpQuiet_nil ?_
          rintro _ ⟨P', rfl⟩
          have OP' := hid (OP.out.below P'.h)
          have BP' := hid (then_ BP.out P'.h)
          have HO4 := hid (OP'.out.alloc (.cells #[.int .i64 (f k), .int .i64 (g k), .int .i64 (h k)] 29))
          have HL4 := hid (one_rt (w := P'.W) (f k, g k, h k))
          have sz4 := hid (Nat.le_trans BP'.out.size (show P'.W.heap.size ≤ (P'.W.alloc (.cells #[.int .i64 (f k), .int .i64 (g k), .int .i64 (h k)] 29)).heap.size by rw [World.size_alloc]; omega))
          have q4 := u1' P'
          have q5 := u2' P'
          have q6 := u3' P'
          go_wp2_with (at_builtin; refine wpList_append_rt _ rfl _ _ rfl w2.heap.size _ L rfl HO4.out _ 1 (f k, g k, h k) rfl HL4.out (Nat.le_trans lm (by decide)) sz4.out ?_; intro g4 c4 w4 O4 hg4; generalize hX4 : L ++ [(f k, g k, h k)] = X4 at O4 ⊢; have EX4 := hid hX4; have OX4 := hid O4; have GX4 := hid hg4; clear hX4 O4 hg4)
          have B4 : Below w2.heap.size w2 w4 := (BP'.out.alloc BP'.out.size (.cells #[.int .i64 (f k), .int .i64 (g k), .int .i64 (h k)] 29)).trans (below_grown GX4.out sz4.out (fun j hj => (World.ownsRow.lt HO4.out j hj).1))
          have EN : laid f g h (x, y, z) (k + 1) = (X4, true) := by rw [← EX4.out]; exact EE.out
          exact ⟨⟨k + 1, g4, c4, by omega, rfl, by rw [EN], by rw [EN], by rw [EN]; exact OX4.out, B4⟩, by simp [intOf]; omega⟩
      | false =>
        by_cases c1 : x < f k
        · have d1 : decide (x < f k) = true := decide_eq_true c1
          have d2 : (f k == x) = false := beq_eq_false_iff_ne.2 (by omega)
          have d2' : (f k != x) = true := by rw [bne, d2]; rfl
          have EE : Hid (laid f g h (x, y, z) (k + 1) = (L ++ [(x, y, z)] ++ [(f k, g k, h k)], true)) := by show _ = _; simp [laid, HS.out, d1, d2, d2', c1]
          clear c1
          have u1 : ∀ p : Up wr, p.W.cell? ⟨b, off + k * 3, none⟩ = some (.int .i64 (f k)) := fun p => U1.out ⟨p.W, then_ hB p.h⟩
          have u2 : ∀ p : Up wr, p.W.cell? ⟨b, off + k * 3 + 1, none⟩ = some (.int .i64 (g k)) := fun p => U2.out ⟨p.W, then_ hB p.h⟩
          have u3 : ∀ p : Up wr, p.W.cell? ⟨b, off + k * 3 + 2, none⟩ = some (.int .i64 (h k)) := fun p => U3.out ⟨p.W, then_ hB p.h⟩
          have v1 : ∀ p : Up wr, p.W.cell? ⟨w.heap.size, 0, none⟩ = some (.int .i64 x) := fun p => V1.out ⟨p.W, then_ hB p.h⟩
          have v2 : ∀ p : Up wr, p.W.cell? ⟨w.heap.size, 1, none⟩ = some (.int .i64 y) := fun p => V2.out ⟨p.W, then_ hB p.h⟩
          have v3 : ∀ p : Up wr, p.W.cell? ⟨w.heap.size, 2, none⟩ = some (.int .i64 z) := fun p => V3.out ⟨p.W, then_ hB p.h⟩
          go_wp2
          refine wp_region_quiet_up (by kernel_rfl) (by kernel_rfl) ?_
          repeat (go_big_quiet_step (fail))
          refine wpQuiet_nil ?_
          rintro _ ⟨P, rfl⟩
          have OP := hid (O.out.below P.h)
          have BP := hid (then_ hB P.h)
          have HO3 := hid (OP.out.alloc (.cells #[.int .i64 x, .int .i64 y, .int .i64 z] 29))
          have HL3 := hid (one_rt (w := P.W) (x, y, z))
          have sz3 := hid (Nat.le_trans BP.out.size (show P.W.heap.size ≤ (P.W.alloc (.cells #[.int .i64 x, .int .i64 y, .int .i64 z] 29)).heap.size by rw [World.size_alloc]; omega))
          have q1 := v1 P
          have q2 := v2 P
          have q3 := v3 P
          go_wp2_with (at_builtin; refine wpList_append_rt _ rfl _ _ rfl w2.heap.size _ L rfl HO3.out _ 1 (x, y, z) rfl HL3.out (Nat.le_trans lm (by decide)) sz3.out ?_; intro g3 c3 w3 O3 hg3; generalize hX3 : L ++ [(x, y, z)] = X3 at O3 ⊢; have EX3 := hid hX3; have OX3 := hid O3; have GX3 := hid hg3; clear hX3 O3 hg3)
          have B3 : Below w2.heap.size w2 w3 := (BP.out.alloc BP.out.size (.cells #[.int .i64 x, .int .i64 y, .int .i64 z] 29)).trans (below_grown GX3.out sz3.out (fun j hj => (World.ownsRow.lt HO3.out j hj).1))
          have lm3 : X3.length ≤ 1000 := by have := EX3.out; rw [← this, List.length_append]; simp; omega
          have u1' : ∀ p : Up w3, p.W.cell? ⟨b, off + k * 3, none⟩ = some (.int .i64 (f k)) := fun p => U1.out ⟨p.W, then_ B3 p.h⟩
          have u2' : ∀ p : Up w3, p.W.cell? ⟨b, off + k * 3 + 1, none⟩ = some (.int .i64 (g k)) := fun p => U2.out ⟨p.W, then_ B3 p.h⟩
          have u3' : ∀ p : Up w3, p.W.cell? ⟨b, off + k * 3 + 2, none⟩ = some (.int .i64 (h k)) := fun p => U3.out ⟨p.W, then_ B3 p.h⟩
          have v1' : ∀ p : Up w3, p.W.cell? ⟨w.heap.size, 0, none⟩ = some (.int .i64 x) := fun p => V1.out ⟨p.W, then_ B3 p.h⟩
          have v2' : ∀ p : Up w3, p.W.cell? ⟨w.heap.size, 1, none⟩ = some (.int .i64 y) := fun p => V2.out ⟨p.W, then_ B3 p.h⟩
          have v3' : ∀ p : Up w3, p.W.cell? ⟨w.heap.size, 2, none⟩ = some (.int .i64 z) := fun p => V3.out ⟨p.W, then_ B3 p.h⟩
          refine wp_region_quiet_up (by kernel_rfl) (by kernel_rfl) ?_
          repeat (go_big_quiet_step (fail))
          refine wpQuiet_nil ?_
          rintro _ ⟨P', rfl⟩
          have OP' := hid (OX3.out.below P'.h)
          have BP' := hid (then_ B3 P'.h)
          have HO4 := hid (OP'.out.alloc (.cells #[.int .i64 (f k), .int .i64 (g k), .int .i64 (h k)] 29))
          have HL4 := hid (one_rt (w := P'.W) (f k, g k, h k))
          have sz4 := hid (Nat.le_trans BP'.out.size (show P'.W.heap.size ≤ (P'.W.alloc (.cells #[.int .i64 (f k), .int .i64 (g k), .int .i64 (h k)] 29)).heap.size by rw [World.size_alloc]; omega))
          have q4 := u1' P'
          have q5 := u2' P'
          have q6 := u3' P'
          go_wp2_with (at_builtin; refine wpList_append_rt _ rfl _ _ rfl w2.heap.size _ X3 rfl HO4.out _ 1 (f k, g k, h k) rfl HL4.out lm3 sz4.out ?_; intro g4 c4 w4 O4 hg4; generalize hX4 : X3 ++ [(f k, g k, h k)] = X4 at O4 ⊢; have EX4 := hid hX4; have OX4 := hid O4; have GX4 := hid hg4; clear hX4 O4 hg4)
          have B4 : Below w2.heap.size w2 w4 := (BP'.out.alloc BP'.out.size (.cells #[.int .i64 (f k), .int .i64 (g k), .int .i64 (h k)] 29)).trans (below_grown GX4.out sz4.out (fun j hj => (World.ownsRow.lt HO4.out j hj).1))
          have EN : laid f g h (x, y, z) (k + 1) = (X4, true) := by rw [← EX4.out, ← EX3.out]; exact EE.out
          exact ⟨⟨k + 1, g4, c4, by omega, rfl, by rw [EN], by rw [EN], by rw [EN]; exact OX4.out, B4⟩, by simp [intOf]; omega⟩
        · by_cases c2 : f k = x
          · by_cases c3 : g k = y
            · have d1 : decide (x < f k) = false := decide_eq_false c1
              have d2 : (f k == x) = true := beq_iff_eq.2 c2
              have d2' : (f k != x) = false := by rw [bne, d2]; rfl
              have d3 : decide (y ≤ g k) = true := decide_eq_true (by omega)
              have d4 : (g k == y) = true := beq_iff_eq.2 c3
              have d4' : (g k != y) = false := by rw [bne, d4]; rfl
              have EE : Hid (laid f g h (x, y, z) (k + 1) = (L ++ [(x, y, z)], true)) := by show _ = _; simp [laid, HS.out, c2, c3]
              clear c1 c2 c3
              have u1 : ∀ p : Up wr, p.W.cell? ⟨b, off + k * 3, none⟩ = some (.int .i64 (f k)) := fun p => U1.out ⟨p.W, then_ hB p.h⟩
              have u2 : ∀ p : Up wr, p.W.cell? ⟨b, off + k * 3 + 1, none⟩ = some (.int .i64 (g k)) := fun p => U2.out ⟨p.W, then_ hB p.h⟩
              have u3 : ∀ p : Up wr, p.W.cell? ⟨b, off + k * 3 + 2, none⟩ = some (.int .i64 (h k)) := fun p => U3.out ⟨p.W, then_ hB p.h⟩
              have v1 : ∀ p : Up wr, p.W.cell? ⟨w.heap.size, 0, none⟩ = some (.int .i64 x) := fun p => V1.out ⟨p.W, then_ hB p.h⟩
              have v2 : ∀ p : Up wr, p.W.cell? ⟨w.heap.size, 1, none⟩ = some (.int .i64 y) := fun p => V2.out ⟨p.W, then_ hB p.h⟩
              have v3 : ∀ p : Up wr, p.W.cell? ⟨w.heap.size, 2, none⟩ = some (.int .i64 z) := fun p => V3.out ⟨p.W, then_ hB p.h⟩
              go_wp2
              refine wp_region_quiet_up (by kernel_rfl) (by kernel_rfl) ?_
              repeat (go_big_quiet_step (fail))
              refine wpQuiet_nil ?_
              rintro _ ⟨P, rfl⟩
              have OP := hid (O.out.below P.h)
              have BP := hid (then_ hB P.h)
              have HO3 := hid (OP.out.alloc (.cells #[.int .i64 x, .int .i64 y, .int .i64 z] 29))
              have HL3 := hid (one_rt (w := P.W) (x, y, z))
              have sz3 := hid (Nat.le_trans BP.out.size (show P.W.heap.size ≤ (P.W.alloc (.cells #[.int .i64 x, .int .i64 y, .int .i64 z] 29)).heap.size by rw [World.size_alloc]; omega))
              have q1 := v1 P
              have q2 := v2 P
              have q3 := v3 P
              go_wp2_with (at_builtin; refine wpList_append_rt _ rfl _ _ rfl w2.heap.size _ L rfl HO3.out _ 1 (x, y, z) rfl HL3.out (Nat.le_trans lm (by decide)) sz3.out ?_; intro g3 c3 w3 O3 hg3; generalize hX3 : L ++ [(x, y, z)] = X3 at O3 ⊢; have EX3 := hid hX3; have OX3 := hid O3; have GX3 := hid hg3; clear hX3 O3 hg3)
              have B3 : Below w2.heap.size w2 w3 := (BP.out.alloc BP.out.size (.cells #[.int .i64 x, .int .i64 y, .int .i64 z] 29)).trans (below_grown GX3.out sz3.out (fun j hj => (World.ownsRow.lt HO3.out j hj).1))
              have lm3 : X3.length ≤ 1000 := by have := EX3.out; rw [← this, List.length_append]; simp; omega
              have u1' : ∀ p : Up w3, p.W.cell? ⟨b, off + k * 3, none⟩ = some (.int .i64 (f k)) := fun p => U1.out ⟨p.W, then_ B3 p.h⟩
              have u2' : ∀ p : Up w3, p.W.cell? ⟨b, off + k * 3 + 1, none⟩ = some (.int .i64 (g k)) := fun p => U2.out ⟨p.W, then_ B3 p.h⟩
              have u3' : ∀ p : Up w3, p.W.cell? ⟨b, off + k * 3 + 2, none⟩ = some (.int .i64 (h k)) := fun p => U3.out ⟨p.W, then_ B3 p.h⟩
              have v1' : ∀ p : Up w3, p.W.cell? ⟨w.heap.size, 0, none⟩ = some (.int .i64 x) := fun p => V1.out ⟨p.W, then_ B3 p.h⟩
              have v2' : ∀ p : Up w3, p.W.cell? ⟨w.heap.size, 1, none⟩ = some (.int .i64 y) := fun p => V2.out ⟨p.W, then_ B3 p.h⟩
              have v3' : ∀ p : Up w3, p.W.cell? ⟨w.heap.size, 2, none⟩ = some (.int .i64 z) := fun p => V3.out ⟨p.W, then_ B3 p.h⟩
              refine wp_region_quiet_up (by kernel_rfl) (by kernel_rfl) ?_
              repeat (go_big_quiet_step (fail))
              refine wpQuiet_nil ?_
              rintro _ ⟨P', rfl⟩
              have OP' := hid (OX3.out.below P'.h)
              have BP' := hid (then_ B3 P'.h)
              go_wp2
              have EN : laid f g h (x, y, z) (k + 1) = (X3, true) := by rw [← EX3.out]; exact EE.out
              exact ⟨⟨k + 1, g3, c3, by omega, rfl, by rw [EN], by rw [EN], by rw [EN]; exact OP'.out, BP'.out⟩, by simp [intOf]; omega⟩
            · by_cases c4 : y < g k
              · have d1 : decide (x < f k) = false := decide_eq_false c1
                have d2 : (f k == x) = true := beq_iff_eq.2 c2
                have d2' : (f k != x) = false := by rw [bne, d2]; rfl
                have d3 : decide (y ≤ g k) = true := decide_eq_true (by omega)
                have d4 : (g k == y) = false := beq_eq_false_iff_ne.2 c3
                have d4' : (g k != y) = true := by rw [bne, d4]; rfl
                have c5 : y ≤ g k := by omega
                have EE : Hid (laid f g h (x, y, z) (k + 1) = (L ++ [(x, y, z)] ++ [(f k, g k, h k)], true)) := by show _ = _; simp [laid, HS.out, c2, c3, c5]
                clear c1 c2 c3 c4 c5
                have u1 : ∀ p : Up wr, p.W.cell? ⟨b, off + k * 3, none⟩ = some (.int .i64 (f k)) := fun p => U1.out ⟨p.W, then_ hB p.h⟩
                have u2 : ∀ p : Up wr, p.W.cell? ⟨b, off + k * 3 + 1, none⟩ = some (.int .i64 (g k)) := fun p => U2.out ⟨p.W, then_ hB p.h⟩
                have u3 : ∀ p : Up wr, p.W.cell? ⟨b, off + k * 3 + 2, none⟩ = some (.int .i64 (h k)) := fun p => U3.out ⟨p.W, then_ hB p.h⟩
                have v1 : ∀ p : Up wr, p.W.cell? ⟨w.heap.size, 0, none⟩ = some (.int .i64 x) := fun p => V1.out ⟨p.W, then_ hB p.h⟩
                have v2 : ∀ p : Up wr, p.W.cell? ⟨w.heap.size, 1, none⟩ = some (.int .i64 y) := fun p => V2.out ⟨p.W, then_ hB p.h⟩
                have v3 : ∀ p : Up wr, p.W.cell? ⟨w.heap.size, 2, none⟩ = some (.int .i64 z) := fun p => V3.out ⟨p.W, then_ hB p.h⟩
                go_wp2
                refine wp_region_quiet_up (by kernel_rfl) (by kernel_rfl) ?_
                repeat (go_big_quiet_step (fail))
                refine wpQuiet_nil ?_
                rintro _ ⟨P, rfl⟩
                have OP := hid (O.out.below P.h)
                have BP := hid (then_ hB P.h)
                have HO3 := hid (OP.out.alloc (.cells #[.int .i64 x, .int .i64 y, .int .i64 z] 29))
                have HL3 := hid (one_rt (w := P.W) (x, y, z))
                have sz3 := hid (Nat.le_trans BP.out.size (show P.W.heap.size ≤ (P.W.alloc (.cells #[.int .i64 x, .int .i64 y, .int .i64 z] 29)).heap.size by rw [World.size_alloc]; omega))
                have q1 := v1 P
                have q2 := v2 P
                have q3 := v3 P
                go_wp2_with (at_builtin; refine wpList_append_rt _ rfl _ _ rfl w2.heap.size _ L rfl HO3.out _ 1 (x, y, z) rfl HL3.out (Nat.le_trans lm (by decide)) sz3.out ?_; intro g3 c3 w3 O3 hg3; generalize hX3 : L ++ [(x, y, z)] = X3 at O3 ⊢; have EX3 := hid hX3; have OX3 := hid O3; have GX3 := hid hg3; clear hX3 O3 hg3)
                have B3 : Below w2.heap.size w2 w3 := (BP.out.alloc BP.out.size (.cells #[.int .i64 x, .int .i64 y, .int .i64 z] 29)).trans (below_grown GX3.out sz3.out (fun j hj => (World.ownsRow.lt HO3.out j hj).1))
                have lm3 : X3.length ≤ 1000 := by have := EX3.out; rw [← this, List.length_append]; simp; omega
                have u1' : ∀ p : Up w3, p.W.cell? ⟨b, off + k * 3, none⟩ = some (.int .i64 (f k)) := fun p => U1.out ⟨p.W, then_ B3 p.h⟩
                have u2' : ∀ p : Up w3, p.W.cell? ⟨b, off + k * 3 + 1, none⟩ = some (.int .i64 (g k)) := fun p => U2.out ⟨p.W, then_ B3 p.h⟩
                have u3' : ∀ p : Up w3, p.W.cell? ⟨b, off + k * 3 + 2, none⟩ = some (.int .i64 (h k)) := fun p => U3.out ⟨p.W, then_ B3 p.h⟩
                have v1' : ∀ p : Up w3, p.W.cell? ⟨w.heap.size, 0, none⟩ = some (.int .i64 x) := fun p => V1.out ⟨p.W, then_ B3 p.h⟩
                have v2' : ∀ p : Up w3, p.W.cell? ⟨w.heap.size, 1, none⟩ = some (.int .i64 y) := fun p => V2.out ⟨p.W, then_ B3 p.h⟩
                have v3' : ∀ p : Up w3, p.W.cell? ⟨w.heap.size, 2, none⟩ = some (.int .i64 z) := fun p => V3.out ⟨p.W, then_ B3 p.h⟩
                refine wp_region_quiet_up (by kernel_rfl) (by kernel_rfl) ?_
                repeat (go_big_quiet_step (fail))
                refine wpQuiet_nil ?_
                rintro _ ⟨P', rfl⟩
                have OP' := hid (OX3.out.below P'.h)
                have BP' := hid (then_ B3 P'.h)
                have HO4 := hid (OP'.out.alloc (.cells #[.int .i64 (f k), .int .i64 (g k), .int .i64 (h k)] 29))
                have HL4 := hid (one_rt (w := P'.W) (f k, g k, h k))
                have sz4 := hid (Nat.le_trans BP'.out.size (show P'.W.heap.size ≤ (P'.W.alloc (.cells #[.int .i64 (f k), .int .i64 (g k), .int .i64 (h k)] 29)).heap.size by rw [World.size_alloc]; omega))
                have q4 := u1' P'
                have q5 := u2' P'
                have q6 := u3' P'
                go_wp2_with (at_builtin; refine wpList_append_rt _ rfl _ _ rfl w2.heap.size _ X3 rfl HO4.out _ 1 (f k, g k, h k) rfl HL4.out lm3 sz4.out ?_; intro g4 c4 w4 O4 hg4; generalize hX4 : X3 ++ [(f k, g k, h k)] = X4 at O4 ⊢; have EX4 := hid hX4; have OX4 := hid O4; have GX4 := hid hg4; clear hX4 O4 hg4)
                have B4 : Below w2.heap.size w2 w4 := (BP'.out.alloc BP'.out.size (.cells #[.int .i64 (f k), .int .i64 (g k), .int .i64 (h k)] 29)).trans (below_grown GX4.out sz4.out (fun j hj => (World.ownsRow.lt HO4.out j hj).1))
                have EN : laid f g h (x, y, z) (k + 1) = (X4, true) := by rw [← EX4.out, ← EX3.out]; exact EE.out
                exact ⟨⟨k + 1, g4, c4, by omega, rfl, by rw [EN], by rw [EN], by rw [EN]; exact OX4.out, B4⟩, by simp [intOf]; omega⟩
              · have d1 : decide (x < f k) = false := decide_eq_false c1
                have d2 : (f k == x) = true := beq_iff_eq.2 c2
                have d2' : (f k != x) = false := by rw [bne, d2]; rfl
                have d3 : decide (y ≤ g k) = false := decide_eq_false (by omega)
                have d4 : (g k == y) = false := beq_eq_false_iff_ne.2 c3
                have d4' : (g k != y) = true := by rw [bne, d4]; rfl
                have c5 : g k < y := by omega
                have EE : Hid (laid f g h (x, y, z) (k + 1) = (L ++ [(f k, g k, h k)], false)) := by show _ = _; simp [laid, HS.out, c2, c3, c5]
                clear c1 c2 c3 c4 c5
                have u1 : ∀ p : Up wr, p.W.cell? ⟨b, off + k * 3, none⟩ = some (.int .i64 (f k)) := fun p => U1.out ⟨p.W, then_ hB p.h⟩
                have u2 : ∀ p : Up wr, p.W.cell? ⟨b, off + k * 3 + 1, none⟩ = some (.int .i64 (g k)) := fun p => U2.out ⟨p.W, then_ hB p.h⟩
                have u3 : ∀ p : Up wr, p.W.cell? ⟨b, off + k * 3 + 2, none⟩ = some (.int .i64 (h k)) := fun p => U3.out ⟨p.W, then_ hB p.h⟩
                have v1 : ∀ p : Up wr, p.W.cell? ⟨w.heap.size, 0, none⟩ = some (.int .i64 x) := fun p => V1.out ⟨p.W, then_ hB p.h⟩
                have v2 : ∀ p : Up wr, p.W.cell? ⟨w.heap.size, 1, none⟩ = some (.int .i64 y) := fun p => V2.out ⟨p.W, then_ hB p.h⟩
                have v3 : ∀ p : Up wr, p.W.cell? ⟨w.heap.size, 2, none⟩ = some (.int .i64 z) := fun p => V3.out ⟨p.W, then_ hB p.h⟩
                go_wp2
                refine wp_region_quiet_up (by kernel_rfl) (by kernel_rfl) ?_
                repeat (go_big_quiet_step (fail))
                refine wpQuiet_nil ?_
                rintro _ ⟨P, rfl⟩
                have OP := hid (O.out.below P.h)
                have BP := hid (then_ hB P.h)
                go_wp2
                have u1' : ∀ p : Up P.W, p.W.cell? ⟨b, off + k * 3, none⟩ = some (.int .i64 (f k)) := fun p => U1.out ⟨p.W, then_ BP.out p.h⟩
                have u2' : ∀ p : Up P.W, p.W.cell? ⟨b, off + k * 3 + 1, none⟩ = some (.int .i64 (g k)) := fun p => U2.out ⟨p.W, then_ BP.out p.h⟩
                have u3' : ∀ p : Up P.W, p.W.cell? ⟨b, off + k * 3 + 2, none⟩ = some (.int .i64 (h k)) := fun p => U3.out ⟨p.W, then_ BP.out p.h⟩
                have v1' : ∀ p : Up P.W, p.W.cell? ⟨w.heap.size, 0, none⟩ = some (.int .i64 x) := fun p => V1.out ⟨p.W, then_ BP.out p.h⟩
                have v2' : ∀ p : Up P.W, p.W.cell? ⟨w.heap.size, 1, none⟩ = some (.int .i64 y) := fun p => V2.out ⟨p.W, then_ BP.out p.h⟩
                have v3' : ∀ p : Up P.W, p.W.cell? ⟨w.heap.size, 2, none⟩ = some (.int .i64 z) := fun p => V3.out ⟨p.W, then_ BP.out p.h⟩
                refine wp_region_quiet_up (by kernel_rfl) (by kernel_rfl) ?_
                repeat (go_big_quiet_step (fail))
                refine wpQuiet_nil ?_
                rintro _ ⟨P', rfl⟩
                have OP' := hid (OP.out.below P'.h)
                have BP' := hid (then_ BP.out P'.h)
                have HO4 := hid (OP'.out.alloc (.cells #[.int .i64 (f k), .int .i64 (g k), .int .i64 (h k)] 29))
                have HL4 := hid (one_rt (w := P'.W) (f k, g k, h k))
                have sz4 := hid (Nat.le_trans BP'.out.size (show P'.W.heap.size ≤ (P'.W.alloc (.cells #[.int .i64 (f k), .int .i64 (g k), .int .i64 (h k)] 29)).heap.size by rw [World.size_alloc]; omega))
                have q4 := u1' P'
                have q5 := u2' P'
                have q6 := u3' P'
                go_wp2_with (at_builtin; refine wpList_append_rt _ rfl _ _ rfl w2.heap.size _ L rfl HO4.out _ 1 (f k, g k, h k) rfl HL4.out (Nat.le_trans lm (by decide)) sz4.out ?_; intro g4 c4 w4 O4 hg4; generalize hX4 : L ++ [(f k, g k, h k)] = X4 at O4 ⊢; have EX4 := hid hX4; have OX4 := hid O4; have GX4 := hid hg4; clear hX4 O4 hg4)
                have B4 : Below w2.heap.size w2 w4 := (BP'.out.alloc BP'.out.size (.cells #[.int .i64 (f k), .int .i64 (g k), .int .i64 (h k)] 29)).trans (below_grown GX4.out sz4.out (fun j hj => (World.ownsRow.lt HO4.out j hj).1))
                have EN : laid f g h (x, y, z) (k + 1) = (X4, false) := by rw [← EX4.out]; exact EE.out
                exact ⟨⟨k + 1, g4, c4, by omega, rfl, by rw [EN], by rw [EN], by rw [EN]; exact OX4.out, B4⟩, by simp [intOf]; omega⟩
          · have d1 : decide (x < f k) = false := decide_eq_false c1
            have d2 : (f k == x) = false := beq_eq_false_iff_ne.2 c2
            have d2' : (f k != x) = true := by rw [bne, d2]; rfl
            have c5 : f k ≤ x := by omega
            have EE : Hid (laid f g h (x, y, z) (k + 1) = (L ++ [(f k, g k, h k)], false)) := by show _ = _; simp [laid, HS.out, c2, c5]
            clear c1 c2 c5
            have u1 : ∀ p : Up wr, p.W.cell? ⟨b, off + k * 3, none⟩ = some (.int .i64 (f k)) := fun p => U1.out ⟨p.W, then_ hB p.h⟩
            have u2 : ∀ p : Up wr, p.W.cell? ⟨b, off + k * 3 + 1, none⟩ = some (.int .i64 (g k)) := fun p => U2.out ⟨p.W, then_ hB p.h⟩
            have u3 : ∀ p : Up wr, p.W.cell? ⟨b, off + k * 3 + 2, none⟩ = some (.int .i64 (h k)) := fun p => U3.out ⟨p.W, then_ hB p.h⟩
            have v1 : ∀ p : Up wr, p.W.cell? ⟨w.heap.size, 0, none⟩ = some (.int .i64 x) := fun p => V1.out ⟨p.W, then_ hB p.h⟩
            have v2 : ∀ p : Up wr, p.W.cell? ⟨w.heap.size, 1, none⟩ = some (.int .i64 y) := fun p => V2.out ⟨p.W, then_ hB p.h⟩
            have v3 : ∀ p : Up wr, p.W.cell? ⟨w.heap.size, 2, none⟩ = some (.int .i64 z) := fun p => V3.out ⟨p.W, then_ hB p.h⟩
            go_wp2
            refine wp_region_quiet_up (by kernel_rfl) (by kernel_rfl) ?_
            repeat (go_big_quiet_step (fail))
            refine wpQuiet_nil ?_
            rintro _ ⟨P, rfl⟩
            have OP := hid (O.out.below P.h)
            have BP := hid (then_ hB P.h)
            go_wp2
            have u1' : ∀ p : Up P.W, p.W.cell? ⟨b, off + k * 3, none⟩ = some (.int .i64 (f k)) := fun p => U1.out ⟨p.W, then_ BP.out p.h⟩
            have u2' : ∀ p : Up P.W, p.W.cell? ⟨b, off + k * 3 + 1, none⟩ = some (.int .i64 (g k)) := fun p => U2.out ⟨p.W, then_ BP.out p.h⟩
            have u3' : ∀ p : Up P.W, p.W.cell? ⟨b, off + k * 3 + 2, none⟩ = some (.int .i64 (h k)) := fun p => U3.out ⟨p.W, then_ BP.out p.h⟩
            have v1' : ∀ p : Up P.W, p.W.cell? ⟨w.heap.size, 0, none⟩ = some (.int .i64 x) := fun p => V1.out ⟨p.W, then_ BP.out p.h⟩
            have v2' : ∀ p : Up P.W, p.W.cell? ⟨w.heap.size, 1, none⟩ = some (.int .i64 y) := fun p => V2.out ⟨p.W, then_ BP.out p.h⟩
            have v3' : ∀ p : Up P.W, p.W.cell? ⟨w.heap.size, 2, none⟩ = some (.int .i64 z) := fun p => V3.out ⟨p.W, then_ BP.out p.h⟩
            refine wp_region_quiet_up (by kernel_rfl) (by kernel_rfl) ?_
            repeat (go_big_quiet_step (fail))
            refine wpQuiet_nil ?_
            rintro _ ⟨P', rfl⟩
            have OP' := hid (OP.out.below P'.h)
            have BP' := hid (then_ BP.out P'.h)
            have HO4 := hid (OP'.out.alloc (.cells #[.int .i64 (f k), .int .i64 (g k), .int .i64 (h k)] 29))
            have HL4 := hid (one_rt (w := P'.W) (f k, g k, h k))
            have sz4 := hid (Nat.le_trans BP'.out.size (show P'.W.heap.size ≤ (P'.W.alloc (.cells #[.int .i64 (f k), .int .i64 (g k), .int .i64 (h k)] 29)).heap.size by rw [World.size_alloc]; omega))
            have q4 := u1' P'
            have q5 := u2' P'
            have q6 := u3' P'
            go_wp2_with (at_builtin; refine wpList_append_rt _ rfl _ _ rfl w2.heap.size _ L rfl HO4.out _ 1 (f k, g k, h k) rfl HL4.out (Nat.le_trans lm (by decide)) sz4.out ?_; intro g4 c4 w4 O4 hg4; generalize hX4 : L ++ [(f k, g k, h k)] = X4 at O4 ⊢; have EX4 := hid hX4; have OX4 := hid O4; have GX4 := hid hg4; clear hX4 O4 hg4)
            have B4 : Below w2.heap.size w2 w4 := (BP'.out.alloc BP'.out.size (.cells #[.int .i64 (f k), .int .i64 (g k), .int .i64 (h k)] 29)).trans (below_grown GX4.out sz4.out (fun j hj => (World.ownsRow.lt HO4.out j hj).1))
            have EN : laid f g h (x, y, z) (k + 1) = (X4, false) := by rw [← EX4.out]; exact EE.out
            exact ⟨⟨k + 1, g4, c4, by omega, rfl, by rw [EN], by rw [EN], by rw [EN]; exact OX4.out, B4⟩, by simp [intOf]; omega⟩
    · have ek : k = n := by omega
      subst ek
      clear H2
      cases d with
      | true =>
        have EA : Hid (laidAll f g h (x, y, z) k = L) := by show _ = _; simp [laidAll, HS.out]
        by_cases h20 : L.length ≤ 20
        · have d5 : decide ((20 : Int) < (L.length : Int)) = false := decide_eq_false (by omega)
          have d6 : ¬ (20 : Int) < (L.length : Int) := by omega
          go_wp2
          go_ret2
          refine ⟨then_ B02.out hB, ?_⟩
          rw [EA.out]
          exact RtdIs.yes h20 (O.out.mono B02.out.size)
        · have d5 : decide ((20 : Int) < (L.length : Int)) = true := decide_eq_true (by omega)
          have d6 : (20 : Int) < (L.length : Int) := by omega
          go_wp2
          go_ret2
          refine ⟨then_ B02.out hB, ?_⟩
          rw [EA.out]
          exact RtdIs.no (by omega)
      | false =>
        have EA : Hid (laidAll f g h (x, y, z) k = L ++ [(x, y, z)]) := by show _ = _; simp [laidAll, HS.out]
        have OW := hid O.out
        have BW := hid hB
        have HO3 := hid (OW.out.alloc (.cells #[.int .i64 x, .int .i64 y, .int .i64 z] 29))
        have HL3 := hid (one_rt (w := wr) (x, y, z))
        have sz3 := hid (Nat.le_trans BW.out.size (show wr.heap.size ≤ (wr.alloc (.cells #[.int .i64 x, .int .i64 y, .int .i64 z] 29)).heap.size by rw [World.size_alloc]; omega))
        have q1 := V1.out ⟨wr, hB⟩
        have q2 := V2.out ⟨wr, hB⟩
        have q3 := V3.out ⟨wr, hB⟩
        go_wp2_with (at_builtin; refine wpList_append_rt _ rfl _ _ rfl w2.heap.size _ L rfl HO3.out _ 1 (x, y, z) rfl HL3.out (Nat.le_trans lm (by decide)) sz3.out ?_; intro g3 c3 w3 O3 hg3; generalize hX3 : L ++ [(x, y, z)] = X3 at O3 ⊢; have EX3 := hid hX3; have OX3 := hid O3; have GX3 := hid hg3; clear hX3 O3 hg3)
        all_goals (
          have B3 : Below w2.heap.size w2 w3 := (BW.out.alloc BW.out.size (.cells #[.int .i64 x, .int .i64 y, .int .i64 z] 29)).trans (below_grown GX3.out sz3.out (fun j hj => (World.ownsRow.lt HO3.out j hj).1))
          have EA3 : laidAll f g h (x, y, z) k = X3 := by rw [EA.out]; exact EX3.out
          go_ret2
          refine ⟨then_ B02.out B3, ?_⟩
          rw [EA3]
          first
            | exact RtdIs.yes (by omega) (OX3.out.mono B02.out.size)
            | exact RtdIs.no (by omega))
end Go.Proofs.Ythlejmofhcgkdaa
