/- Sync, copiedDisk: the program. -/
import Derived.Test.YtcchpeebhkiacaaME
import Derived.Test.YtcchpeebhkiacaaEF
namespace Go.Proofs.Ytcchpeebhkiacaa
open Go Go.RowKit Go.Deep Go.Maps

/-- a disk that a call made: its lists are its own, and apart -/
structure AnsI (w : World) (B : Nat) (vl vs vo : Value) (L S : List FileV) (O : List OpV) : Prop where
  l : OwnF w B vl L
  s : OwnF w B vs S
  o : OwnO w B vo O
  ap : vl.ownBlock = none ∨ vl.ownBlock ≠ vs.ownBlock
theorem AnsI.below {w w' : World} {B : Nat} {vl vs vo : Value} {L S : List FileV} {O : List OpV} (h : AnsI w B vl vs vo L S O) (hb : Below w.heap.size w w') : AnsI w' B vl vs vo L S O := ⟨h.l.below hb, h.s.below hb, h.o.below hb, h.ap⟩
theorem AnsI.set {w : World} {B b i : Nat} {vl vs vo : Value} {L S : List FileV} {O : List OpV} {cs : Array Value} (h : AnsI w B vl vs vo L S O) (hb : Blk w b (.cells cs 27)) (u : Value) : AnsI (w.setCell ⟨b, i, none⟩ u) B vl vs vo L S O := ⟨own_setF h.l hb u, own_setF h.s hb u, own_setO h.o hb u, h.ap⟩
/-- .. all three cells of the box written -/
theorem AnsI.set3 {w : World} {B b : Nat} {vl vs vo : Value} {L S : List FileV} {O : List OpV} {cs : Array Value} (h : AnsI w B vl vs vo L S O) (hb : Blk w b (.cells cs 27)) (x y z : Value) : AnsI (((w.setCell ⟨b, 0, none⟩ x).setCell ⟨b, 1, none⟩ y).setCell ⟨b, 2, none⟩ z) B vl vs vo L S O :=
  ((h.set hb x).set (hb.setAt (i := 0) x) y).set ((hb.setAt (i := 0) x).setAt (i := 1) y) z
theorem AnsI.base {w : World} {B B' : Nat} {vl vs vo : Value} {L S : List FileV} {O : List OpV} (h : AnsI w B vl vs vo L S O) (hB : B' ≤ B) : AnsI w B' vl vs vo L S O := ⟨own_base h.l hB, own_base h.s hB, own_base h.o hB, h.ap⟩
theorem AnsI.none (w : World) (B : Nat) : AnsI w B (.slice none 0 0) (.slice none 0 0) (.slice none 0 0) [] [] [] := ⟨OwnF.nil _ _, OwnF.nil _ _, OwnO.nil _ _, .inl rfl⟩
theorem own_apart {w w' : World} {e e' n n' : Nat} {size size' : Nat} {v u : Value} {xs ys : List Value} {B : Nat} (h : w.ownsRow B e size v n xs) (k : w'.ownsRow w.heap.size e' size' u n' ys) : v.ownBlock = none ∨ v.ownBlock ≠ u.ownBlock := by
  cases hv : v.ownBlock with
  | none => exact .inl rfl
  | some g =>
    refine .inr (fun e => ?_)
    have h1 := (World.ownsRow.lt h g hv).2
    have h2 := (World.ownsRow.lt k g e.symm).1
    omega

set_option maxRecDepth 100000 in
set_option maxHeartbeats 4000000 in
theorem synced_any (d : DiskV) (w : World) (hd : d.at w) (hs : d.small) :
    Calls Try.prog 32 #[d.val] w fun e w' => ∃ vl vs vo, e = .returned (.agg #[vl, vs, vo]) ∧ AnsI w' w.heap.size vl vs vo d.live.toL d.live.toL [] ∧ Below w.heap.size w w' := by
  obtain ⟨A0, R0, b0⟩ := two_boxes w (.cells #[.slice d.live.a d.live.n d.live.k, .slice d.safe.a d.safe.n d.safe.k, .slice d.ops.a d.ops.n d.ops.k] 27) (.cells #[.slice none 0 0, .slice none 0 0, .slice none 0 0] 27)
  obtain ⟨n0, n1, n2⟩ := hs
  have HD := hid hd
  have C1 : Hid (∀ W, Below w.heap.size w W → Calls Try.prog 59 #[.slice d.live.a d.live.n d.live.k] W fun e w' => ∃ v, e = .returned v ∧ OwnF w' W.heap.size v d.live.toL ∧ Below W.heap.size W w') := hid (fun W hW => copiedF_any d.live W (HD.out.1.below hW) n0)
  have C2 : Hid (∀ W, Below w.heap.size w W → Calls Try.prog 59 #[.slice d.live.a d.live.n d.live.k] W fun e w' => ∃ v, e = .returned v ∧ OwnF w' W.heap.size v d.live.toL ∧ Below W.heap.size W w') := hid (fun W hW => copiedF_any d.live W (HD.out.1.below hW) n0)
  have C3 : Hid (∀ W, Below w.heap.size w W → Calls Try.prog 62 #[.slice d.ops.a d.ops.n d.ops.k] W fun e w' => ∃ v, e = .returned v ∧ OwnO w' W.heap.size v d.ops.toL ∧ Below W.heap.size W w') := hid (fun W hW => copiedO_any d.ops W (HD.out.2.2.below hW) n2)
  unfold DiskV.val
  obtain ⟨x0, x1, x2⟩ := A0.three
  have R0' := hid R0
  have A0' := hid A0
  have HB0 := hid b0
  have HB0d : Hid (Below w.heap.size w ((w.alloc (.cells #[.slice d.live.a d.live.n d.live.k, .slice d.safe.a d.safe.n d.safe.k, .slice d.ops.a d.ops.n d.ops.k] 27)).alloc (.cells #[.slice none 0 0, .slice none 0 0, .slice none 0 0] 27)).drew) := hid b0.drew
  clear hd
  go_enter Try.func32, Try.ntmps32
  go_wp2_with fail
  generalize ((w.alloc (.cells #[.slice d.live.a d.live.n d.live.k, .slice d.safe.a d.safe.n d.safe.k, .slice d.ops.a d.ops.n d.ops.k] 27)).alloc (.cells #[.slice none 0 0, .slice none 0 0, .slice none 0 0] 27)) = V at *
  have mk1 : True := trivial
  go_region_held3 (fun w' => w'.cell? ⟨w.heap.size, 0, none⟩ = some (.slice d.live.a d.live.n d.live.k) ∧ w'.cell? ⟨w.heap.size, 1, none⟩ = some (.slice d.safe.a d.safe.n d.safe.k) ∧ w'.cell? ⟨w.heap.size, 2, none⟩ = some (.slice d.ops.a d.ops.n d.ops.k)) (first | go_keep | (simp only [*, and_self]))
    (first
      | (go_at_call 59; have mq := mk1; clear mk1; refine (C1.out _ HB0d.out).mono ?_; rintro e w1 ⟨v1, rfl, o1, h1⟩; obtain ⟨a1, k1, rfl⟩ := ownsRow_shape o1; have D1 := hid (then_ HB0d.out h1); have E1 : Hid (Below V.heap.size V w1) := hid ((Below.refl _ V).drew.trans h1); have O1 := hid o1; obtain ⟨p0, p1, p2⟩ := (A0'.out.below E1.out).three; obtain ⟨rr0, rr1, rr2⟩ := (R0'.out.below E1.out).three; clear o1 h1; have mk2 : True := trivial)
      | (go_at_call 59; have mq2 := mk2; clear mk2; refine (C2.out _ D1.out).mono ?_; rintro e w2 ⟨v2, rfl, o2, h2⟩; obtain ⟨a2, k2, rfl⟩ := ownsRow_shape o2; have D2 := hid (then_ D1.out h2); have E2 := hid (then_ E1.out h2); have O12 := hid (O1.out.below h2); have AP := hid (own_apart O1.out o2); have O2 := hid (own_base o2 D1.out.size); obtain ⟨q0, q1, q2⟩ := (A0'.out.below E2.out).three; have RR := hid (R0'.out.below E2.out); obtain ⟨s0, s1, s2⟩ := RR.out.three; have sf := RR.out.warm; clear o2 h2)
      )
  all_goals (
    go_wp2
    refine bodyPost_ret (disk_results _ _ (w.heap.size + 1) _ _ _ Try.results32 ((RR.out.setAt (i := 0) _).setAt (i := 1) _ |>.setAt (i := 2) _) rfl) rfl ⟨_, _, _, rfl, ?_, ?_⟩
    · exact AnsI.set3 ⟨own_base O12.out HB0d.out.size, O2.out, OwnO.nil _ _, AP.out⟩ RR.out _ _ _
    · iterate 3 refine Below.setCell ?_ (by dsimp only; omega) _
      exact D2.out)

set_option maxRecDepth 100000 in
set_option maxHeartbeats 4000000 in
theorem copiedDisk_any (d : DiskV) (w : World) (hd : d.at w) (hs : d.small) :
    Calls Try.prog 42 #[d.val] w fun e w' => ∃ vl vs vo, e = .returned (.agg #[vl, vs, vo]) ∧ AnsI w' w.heap.size vl vs vo d.live.toL d.safe.toL d.ops.toL ∧ Below w.heap.size w w' := by
  obtain ⟨A0, R0, b0⟩ := two_boxes w (.cells #[.slice d.live.a d.live.n d.live.k, .slice d.safe.a d.safe.n d.safe.k, .slice d.ops.a d.ops.n d.ops.k] 27) (.cells #[.slice none 0 0, .slice none 0 0, .slice none 0 0] 27)
  obtain ⟨n0, n1, n2⟩ := hs
  have HD := hid hd
  have C1 : Hid (∀ W, Below w.heap.size w W → Calls Try.prog 59 #[.slice d.live.a d.live.n d.live.k] W fun e w' => ∃ v, e = .returned v ∧ OwnF w' W.heap.size v d.live.toL ∧ Below W.heap.size W w') := hid (fun W hW => copiedF_any d.live W (HD.out.1.below hW) n0)
  have C2 : Hid (∀ W, Below w.heap.size w W → Calls Try.prog 59 #[.slice d.safe.a d.safe.n d.safe.k] W fun e w' => ∃ v, e = .returned v ∧ OwnF w' W.heap.size v d.safe.toL ∧ Below W.heap.size W w') := hid (fun W hW => copiedF_any d.safe W (HD.out.2.1.below hW) n1)
  have C3 : Hid (∀ W, Below w.heap.size w W → Calls Try.prog 62 #[.slice d.ops.a d.ops.n d.ops.k] W fun e w' => ∃ v, e = .returned v ∧ OwnO w' W.heap.size v d.ops.toL ∧ Below W.heap.size W w') := hid (fun W hW => copiedO_any d.ops W (HD.out.2.2.below hW) n2)
  unfold DiskV.val
  obtain ⟨x0, x1, x2⟩ := A0.three
  have R0' := hid R0
  have A0' := hid A0
  have HB0 := hid b0
  have HB0d : Hid (Below w.heap.size w ((w.alloc (.cells #[.slice d.live.a d.live.n d.live.k, .slice d.safe.a d.safe.n d.safe.k, .slice d.ops.a d.ops.n d.ops.k] 27)).alloc (.cells #[.slice none 0 0, .slice none 0 0, .slice none 0 0] 27)).drew) := hid b0.drew
  clear hd
  go_enter Try.func42, Try.ntmps42
  go_wp2_with fail
  generalize ((w.alloc (.cells #[.slice d.live.a d.live.n d.live.k, .slice d.safe.a d.safe.n d.safe.k, .slice d.ops.a d.ops.n d.ops.k] 27)).alloc (.cells #[.slice none 0 0, .slice none 0 0, .slice none 0 0] 27)) = V at *
  have mk1 : True := trivial
  go_region_held3 (fun w' => w'.cell? ⟨w.heap.size, 0, none⟩ = some (.slice d.live.a d.live.n d.live.k) ∧ w'.cell? ⟨w.heap.size, 1, none⟩ = some (.slice d.safe.a d.safe.n d.safe.k) ∧ w'.cell? ⟨w.heap.size, 2, none⟩ = some (.slice d.ops.a d.ops.n d.ops.k)) (first | go_keep | (simp only [*, and_self]))
    (first
      | (go_at_call 59; have mq := mk1; clear mk1; refine (C1.out _ HB0d.out).mono ?_; rintro e w1 ⟨v1, rfl, o1, h1⟩; obtain ⟨a1, k1, rfl⟩ := ownsRow_shape o1; have D1 := hid (then_ HB0d.out h1); have E1 : Hid (Below V.heap.size V w1) := hid ((Below.refl _ V).drew.trans h1); have O1 := hid o1; obtain ⟨p0, p1, p2⟩ := (A0'.out.below E1.out).three; clear o1 h1; have mk2 : True := trivial)
      | (go_at_call 59; have mq2 := mk2; clear mk2; refine (C2.out _ D1.out).mono ?_; rintro e w2 ⟨v2, rfl, o2, h2⟩; obtain ⟨a2, k2, rfl⟩ := ownsRow_shape o2; have D2 := hid (then_ D1.out h2); have E2 := hid (then_ E1.out h2); have O12 := hid (O1.out.below h2); have AP := hid (own_apart O1.out o2); have O2 := hid (own_base o2 D1.out.size); obtain ⟨q0, q1, q2⟩ := (A0'.out.below E2.out).three; have RR := hid (R0'.out.below E2.out); obtain ⟨s0, s1, s2⟩ := RR.out.three; have sf := RR.out.warm; clear o2 h2)
      | (go_at_call 62; refine (C3.out _ D2.out).mono ?_; rintro e w3 ⟨v3, rfl, o3, h3⟩; obtain ⟨a3, k3, rfl⟩ := ownsRow_shape o3; have D3 := hid (then_ D2.out h3); have E3 := hid (then_ E2.out h3); have O13 := hid (O12.out.below h3); have O23 := hid (OwnF.below O2.out h3); have O3 := hid (own_base o3 D2.out.size); obtain ⟨u0, u1, u2⟩ := (A0'.out.below E3.out).three; have RR3 := hid (R0'.out.below E3.out); obtain ⟨t0, t1, t2⟩ := RR3.out.three; have tf := RR3.out.warm; clear o3 h3)
      )
  all_goals (
    go_wp2
    refine bodyPost_ret (disk_results _ _ (w.heap.size + 1) _ _ _ Try.results42 ((RR3.out.setAt (i := 0) _).setAt (i := 1) _ |>.setAt (i := 2) _) rfl) rfl ⟨_, _, _, rfl, ?_, ?_⟩
    · exact AnsI.set3 ⟨own_base O13.out HB0d.out.size, O23.out, O3.out, AP.out⟩ RR3.out _ _ _
    · iterate 3 refine Below.setCell ?_ (by dsimp only; omega) _
      exact D3.out)

set_option maxRecDepth 100000 in
set_option maxHeartbeats 4000000 in
theorem implSync_any (d : DiskV) (w : World) (hd : d.at w) (hs : d.sz ≤ 1048576) :
    Calls Try.prog 11 #[d.val] w fun e w' => ∃ vl vs vo, e = .returned (.agg #[vl, vs, vo]) ∧ AnsI w' w.heap.size vl vs vo (syncL d) (syncL d) [] ∧ Below w.heap.size w w' := by
  obtain ⟨A0, R0, b0⟩ := two_boxes w (.cells #[.slice d.live.a d.live.n d.live.k, .slice d.safe.a d.safe.n d.safe.k, .slice d.ops.a d.ops.n d.ops.k] 27) (.cells #[.slice none 0 0, .slice none 0 0, .slice none 0 0] 27)
  have HD := hid hd
  have SM := hid (DiskV.small_of hs)
  have C1 := hid (implDisk_any d _ (hd.below b0) hs)
  have C2 : Hid (∀ W, Below w.heap.size w W → Calls Try.prog 32 #[d.val] W fun e w' => ∃ vl vs vo, e = .returned (.agg #[vl, vs, vo]) ∧ AnsI w' W.heap.size vl vs vo d.live.toL d.live.toL [] ∧ Below W.heap.size W w') := hid (fun W hW => synced_any d W (HD.out.below hW) SM.out)
  unfold DiskV.val at C1 C2 ⊢
  obtain ⟨x0, x1, x2⟩ := A0.three
  clear hd hs
  go_enter Try.func11, Try.ntmps11
  go_wp2_with fail
  refine C1.out.mono ?_
  rintro e w1 ⟨rfl, hb1⟩
  have A1 := A0.below hb1
  have R1 := R0.below hb1
  have B1 := then_ b0 hb1
  clear x0 x1 x2 C1 A0 R0 b0 hb1
  obtain ⟨x0, x1, x2⟩ := A1.three
  obtain ⟨r0, r1, r2⟩ := R1.three
  have rw1 := R1.warm
  cases t1 : dkOk d with
  | false =>
    have E : Hid (syncL d = []) := hid (by rw [syncL, if_neg (by rw [t1]; decide)])
    go_wp2
    refine bodyPost_ret (disk_results _ _ (w.heap.size + 1) (.slice none 0 0) (.slice none 0 0) (.slice none 0 0) Try.results11 (((R1.setAt (i := 0) _).setAt (i := 1) _).setAt (i := 2) _) rfl) rfl ⟨_, _, _, rfl, ?_, ?_⟩
    · rw [E.out]
      exact AnsI.none _ _
    · iterate 3 refine Below.setCell ?_ (by dsimp only; omega) _
      exact B1
  | true =>
    have E : Hid (syncL d = d.live.toL) := hid (by rw [syncL, if_pos t1])
    go_wp2_with fail
    refine (C2.out _ B1).mono ?_
    rintro e w2 ⟨vl, vs, vo, rfl, hA, hb2⟩
    have R2 := R1.below hb2
    have B2 := then_ B1 hb2
    have HA := hid hA
    clear x0 x1 x2 r0 r1 r2 rw1 hA
    obtain ⟨r0, r1, r2⟩ := R2.three
    have rf := R2.warm
    obtain ⟨al, cl, rfl⟩ := ownsRow_shape HA.out.l
    obtain ⟨aq, cs, rfl⟩ := ownsRow_shape HA.out.s
    obtain ⟨ao, co, rfl⟩ := ownsRow_shape HA.out.o
    go_wp2
    refine bodyPost_ret (disk_results _ _ (w.heap.size + 1) _ _ _ Try.results11 (((R2.setAt (i := 0) _).setAt (i := 1) _).setAt (i := 2) _) rfl) rfl ⟨_, _, _, rfl, ?_, ?_⟩
    · rw [E.out]
      exact (HA.out.base B1.size).set3 R2 _ _ _
    · iterate 3 refine Below.setCell ?_ (by dsimp only; omega) _
      exact B2
end Go.Proofs.Ytcchpeebhkiacaa
