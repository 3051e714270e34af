/- StepOk of the program answers the plain function stepOk. -/
import Derived.Test.YthbmfbnnemgbpaaGreatDoorZ8
import Derived.Test.YthbmfbnnemgbpaaGreatDoorZ0
import Derived.Deep.DeepCutAuto
import Derived.Test.YthbmfbnnemgbpaaGreatDoorZ7
namespace Go.Proofs.YthbmfbnnemgbpaaGreatDoor
open Go Go.RowKit Go.Deep
section
variable {P : Program} {ops : Array Oper} {Q : Exit → Act → World → Prop} {a : Act} {w : World}
theorem Seq.tk (i d : Nat) {o : Oper} (v : Value) (h : Seq P ops Q (i + 1) (a.put (some d) v) w) (ho : ops[i]? = some o := by rfl) (hd : o.dst = some d := by rfl)
 (hw : Region.wanted o (yielded ops a.tmps) = true := by kernel_rfl) (hv : (execOp a.eval o).run P w = .ok (.value v) w := by go_simp) : Seq P ops Q i a w := Seq.take v ho hd hw hv h
def putsV : List Nat → List Value → Act → Act
 | d :: ds, x :: xs, a => putsV ds xs (a.put (some d) x)
 | _, _, a => a
theorem Seq.opt (ds : List Nat) (R : List Value → World → Prop) (j : Nat) {i : Nat} (h1 : ∀ xs w', R xs w' → Seq P ops Q j (putsV ds xs a) w')
 (h2 : (∀ xs w', R xs w' → Seq P ops Q j (putsV ds xs a) w') → Seq P ops Q i a w) : Seq P ops Q i a w := h2 h1
end
def ImplStep : Prop := ∀ (th kind id to' cat : Int) (d : ByteArray) (bl : Int) (al : Option Addr) (nl kl : Nat) (fl gl : Nat → Int) (bc : Int) (ac : Option Addr) (nc kc : Nat) (fc gc : Nat → Int) (w : World) (_ : d.size ≤ maxLen) (_ : nl ≤ maxLen) (_ : nc ≤ maxLen) (_ : CatsAt w al nl fl gl) (_ : CatsAt w ac nc fc gc),
 Calls Tryz.prog 9 #[.agg #[.int .i64 th, .int .i64 kind, .int .i64 id, .int .i64 to', .int .i64 cat, .string d, .int .i64 bl, .slice al nl kl, .int .i64 bc, .slice ac nc kc]] w fun e w' => e = .returned (.bool (stepOk th kind id to' cat d bl nl fl gl bc nc fc gc)) ∧ Below w.heap.size w w'
set_option maxRecDepth 100000 in
set_option maxHeartbeats 16000000 in
theorem implStep_any : ImplStep := by
 intro th kind id to' cat d bl al nl kl fl gl bc ac nc kc fc gc w hd hnl hnc hcl hcc
 have L0 := (Below.refl _ w).alloc (Nat.le_refl _) (.cells #[.int .i64 th, .int .i64 kind, .int .i64 id, .int .i64 to', .int .i64 cat, .string d, .int .i64 bl, .slice al nl kl, .int .i64 bc, .slice ac nc kc] 28)
 have A0 := Blk.new w (.cells #[.int .i64 th, .int .i64 kind, .int .i64 id, .int .i64 to', .int .i64 cat, .string d, .int .i64 bl, .slice al nl kl, .int .i64 bc, .slice ac nc kc] 28)
 unfold stepOk
 have HU := usesOf_any kind
 generalize uOk kind = ok at *
 generalize uId kind = ui at *
 generalize uTo kind = ut at *
 generalize uCat kind = uc at *
 generalize uData kind = ud at *
 generalize uLabel kind = ul at *
 generalize uClear kind = ue at *
 go_enter Tryz.func9, Tryz.ntmps9
 go_wp2_with fail
 refine (HU _).mono ?_
 rintro e w1 ⟨rfl, hb1⟩
 have K1 := (Below.refl _ w1).alloc (Nat.le_refl _) (.cells #[.bool ui, .bool ut, .bool uc, .bool ud, .bool ul, .bool ue] 55)
 have A := (A0.below hb1).below K1
 have U := Blk.new w1 (.cells #[.bool ui, .bool ut, .bool uc, .bool ud, .bool ul, .bool ue] 55)
 have L : Below w.heap.size w (w1.alloc (.cells #[.bool ui, .bool ut, .bool uc, .bool ud, .bool ul, .bool ue] 55)) := L0.trans ((hb1.mono (by simp)).trans (K1.mono (by have := hb1.size; simp at this; omega)))
 clear hb1 K1 A0 L0
 obtain ⟨c0, c1, c2, c3, c4, c5, c6, c7, c8, c9⟩ := A.ten
 go_upto_region 2 with fail
 clear c0 c1 c2 c3 c4 c5 c6 c7 c8 c9
 generalize w1.alloc (.cells #[.bool ui, .bool ut, .bool uc, .bool ud, .bool ul, .bool ue] 55) = W1 at *
 generalize w1.heap.size = PU at *
 refine Seq.region ?_
 cases ok
 ·refine Seq.falls 2 74 rfl (by kernel_rfl) (fun T hT => ?_)
  go_wp2
  go_ret
  exact ⟨ret_falls hT (by simp [stepC]), L⟩
 by_cases s1 : 1 ≤ th
 rotate_left
 ·have t2 : inB th 1 9 = false := by simp [inB, s1]
  refine Seq.tk 0 11 (.bool true) ?_
  simp only [ap, List.set]
  refine Seq.tk 1 12 (.bool true) ?_
  simp only [ap, List.set]
  refine Seq.tk 2 13 (.pointer (some ⟨w.heap.size, 0, none⟩)) ?_
  simp only [ap, List.set]
  refine Seq.tk 3 14 (.int .i64 th) ?_ (hv := by obtain ⟨c0, c1, c2, c3, c4, c5, c6, c7, c8, c9⟩ := A.ten; obtain ⟨v0, v1, v2, v3, v4, v5⟩ := U.six; go_simp)
  simp only [ap, List.set]
  refine Seq.tk 4 15 (.bool false) ?_
  simp only [ap, List.set]
  refine Seq.falls 2 69 rfl (by kernel_rfl) (fun T hT => ?_)
  go_wp2
  go_ret
  exact ⟨ret_falls hT (by simp [stepC, t2]), L⟩
 by_cases s2 : th ≤ 9
 rotate_left
 ·have t2 : inB th 1 9 = false := by simp [inB, s2]
  refine Seq.tk 0 11 (.bool true) ?_
  simp only [ap, List.set]
  refine Seq.tk 1 12 (.bool true) ?_
  simp only [ap, List.set]
  refine Seq.tk 2 13 (.pointer (some ⟨w.heap.size, 0, none⟩)) ?_
  simp only [ap, List.set]
  refine Seq.tk 3 14 (.int .i64 th) ?_ (hv := by obtain ⟨c0, c1, c2, c3, c4, c5, c6, c7, c8, c9⟩ := A.ten; obtain ⟨v0, v1, v2, v3, v4, v5⟩ := U.six; go_simp)
  simp only [ap, List.set]
  refine Seq.tk 4 15 (.bool true) ?_
  simp only [ap, List.set]
  refine Seq.tk 5 16 (.bool true) ?_
  simp only [ap, List.set]
  refine Seq.tk 6 17 (.bool true) ?_
  simp only [ap, List.set]
  refine Seq.tk 7 18 (.pointer (some ⟨w.heap.size, 0, none⟩)) ?_
  simp only [ap, List.set]
  refine Seq.tk 8 19 (.int .i64 th) ?_ (hv := by obtain ⟨c0, c1, c2, c3, c4, c5, c6, c7, c8, c9⟩ := A.ten; obtain ⟨v0, v1, v2, v3, v4, v5⟩ := U.six; go_simp)
  simp only [ap, List.set]
  refine Seq.tk 9 20 (.bool false) ?_
  simp only [ap, List.set]
  refine Seq.falls 2 64 rfl (by kernel_rfl) (fun T hT => ?_)
  go_wp2
  go_ret
  exact ⟨ret_falls hT (by simp [stepC, t2]), L⟩
 have t2 : inB th 1 9 = true := inB_iff.2 ⟨s1, s2⟩
 refine Seq.tk 0 11 (.bool true) ?_
 simp only [ap, List.set]
 refine Seq.tk 1 12 (.bool true) ?_
 simp only [ap, List.set]
 refine Seq.tk 2 13 (.pointer (some ⟨w.heap.size, 0, none⟩)) ?_
 simp only [ap, List.set]
 refine Seq.tk 3 14 (.int .i64 th) ?_ (hv := by obtain ⟨c0, c1, c2, c3, c4, c5, c6, c7, c8, c9⟩ := A.ten; obtain ⟨v0, v1, v2, v3, v4, v5⟩ := U.six; go_simp)
 simp only [ap, List.set]
 refine Seq.tk 4 15 (.bool true) ?_
 simp only [ap, List.set]
 refine Seq.tk 5 16 (.bool true) ?_
 simp only [ap, List.set]
 refine Seq.tk 6 17 (.bool true) ?_
 simp only [ap, List.set]
 refine Seq.tk 7 18 (.pointer (some ⟨w.heap.size, 0, none⟩)) ?_
 simp only [ap, List.set]
 refine Seq.tk 8 19 (.int .i64 th) ?_ (hv := by obtain ⟨c0, c1, c2, c3, c4, c5, c6, c7, c8, c9⟩ := A.ten; obtain ⟨v0, v1, v2, v3, v4, v5⟩ := U.six; go_simp)
 simp only [ap, List.set]
 refine Seq.tk 9 20 (.bool true) ?_
 simp only [ap, List.set]
 refine Seq.tk 10 21 (.bool true) ?_
 simp only [ap, List.set]
 refine Seq.tk 11 22 (.bool true) ?_
 simp only [ap, List.set]
 refine Seq.tk 12 23 (.pointer (some ⟨w.heap.size, 6, none⟩)) ?_
 simp only [ap, List.set]
 refine Seq.tk 13 24 (.agg #[.int .i64 bl, .slice al nl kl]) ?_ (hv := by obtain ⟨c0, c1, c2, c3, c4, c5, c6, c7, c8, c9⟩ := A.ten; obtain ⟨v0, v1, v2, v3, v4, v5⟩ := U.six; go_simp)
 simp only [ap, List.set]
 refine Seq.step rfl (fun K1 hK1 => ?_)
 go_simp
 refine (implOk_any _ _ _ _ fl gl _ hnl (hcl.below L)).mono ?_
 rintro e W2 ⟨rfl, hb⟩
 replace A := A.below hb
 replace U := U.below hb
 replace L : Below w.heap.size w W2 := L.trans (hb.mono L.size)
 clear hb
 cases t3 : labOk bl nl fl gl
 ·refine hK1.out _ _ ?_
  clear hK1 K1
  refine Seq.falls 2 59 rfl (by kernel_rfl) (fun T hT => ?_)
  go_wp2
  go_ret
  exact ⟨ret_falls hT (by simp [stepC, t2, t3]), L⟩
 refine hK1.out _ _ ?_
 clear hK1 K1
 try simp only [ap, List.set]
 refine Seq.tk 15 26 (.bool true) ?_
 simp only [ap, List.set]
 refine Seq.tk 16 27 (.bool true) ?_
 simp only [ap, List.set]
 refine Seq.tk 17 28 (.pointer (some ⟨PU, 4, none⟩)) ?_
 simp only [ap, List.set]
 refine Seq.tk 18 29 (.bool ul) ?_ (hv := by obtain ⟨c0, c1, c2, c3, c4, c5, c6, c7, c8, c9⟩ := A.ten; obtain ⟨v0, v1, v2, v3, v4, v5⟩ := U.six; go_simp)
 simp only [ap, List.set]
 refine Seq.tk 19 30 (.bool ul) ?_
 simp only [ap, List.set]
 refine Seq.opt [31, 32, 33, 34] (fun xs W => (∃ x y z, xs = [x, y, z, .bool (ul || zeroB bl nl)]) ∧ Blk W w.heap.size (.cells #[.int .i64 th, .int .i64 kind, .int .i64 id, .int .i64 to', .int .i64 cat, .string d, .int .i64 bl, .slice al nl kl, .int .i64 bc, .slice ac nc kc] 28) ∧ Blk W PU (.cells #[.bool ui, .bool ut, .bool uc, .bool ud, .bool ul, .bool ue] 55) ∧ Below w.heap.size w W) 24 ?_ (fun REST => ?_)
 rotate_left
 ·cases ul
  ·skip
   refine Seq.tk 20 31 (.pointer (some ⟨w.heap.size, 6, none⟩)) ?_
   simp only [ap, List.set]
   refine Seq.tk 21 32 (.agg #[.int .i64 bl, .slice al nl kl]) ?_ (hv := by obtain ⟨c0, c1, c2, c3, c4, c5, c6, c7, c8, c9⟩ := A.ten; obtain ⟨v0, v1, v2, v3, v4, v5⟩ := U.six; go_simp)
   simp only [ap, List.set]
   refine Seq.step rfl (fun K1 hK1 => ?_)
   go_simp
   refine (isZero_any _ _ _ _ _ hnl).mono ?_
   rintro e W2 ⟨rfl, hb⟩
   replace A := A.below hb
   replace U := U.below hb
   replace L : Below w.heap.size w W2 := L.trans (hb.mono L.size)
   clear hb
   refine hK1.out _ _ ?_
   clear hK1 K1
   try simp only [ap, List.set]
   refine Seq.tk 23 34 (.bool (zeroB bl nl)) ?_
   simp only [ap, List.set]
   exact REST _ _ ⟨⟨_, _, _, rfl⟩, A, U, L⟩
  ·refine Seq.pass (j := 23) 3 rfl (by kernel_rfl) ?_
   refine Seq.tk 23 34 (.bool true) ?_
   simp only [ap, List.set]
   exact REST _ _ ⟨⟨undef, undef, undef, rfl⟩, A, U, L⟩
 clear A U L
 rintro xs W ⟨⟨x, y, z, rfl⟩, A, U, L⟩
 simp only [putsV, ap, List.set]
 cases t4 : (ul || zeroB bl nl)
 ·refine Seq.falls 2 50 rfl (by kernel_rfl) (fun T hT => ?_)
  go_wp2
  go_ret
  exact ⟨ret_falls hT (by simp [stepC, t2, t3, t4]), L⟩
 refine Seq.tk 24 35 (.bool true) ?_
 simp only [ap, List.set]
 refine Seq.tk 25 36 (.bool true) ?_
 simp only [ap, List.set]
 refine Seq.tk 26 37 (.pointer (some ⟨w.heap.size, 8, none⟩)) ?_
 simp only [ap, List.set]
 refine Seq.tk 27 38 (.agg #[.int .i64 bc, .slice ac nc kc]) ?_ (hv := by obtain ⟨c0, c1, c2, c3, c4, c5, c6, c7, c8, c9⟩ := A.ten; obtain ⟨v0, v1, v2, v3, v4, v5⟩ := U.six; go_simp)
 simp only [ap, List.set]
 refine Seq.step rfl (fun K1 hK1 => ?_)
 go_simp
 refine (implOk_any _ _ _ _ fc gc _ hnc (hcc.below L)).mono ?_
 rintro e W2 ⟨rfl, hb⟩
 replace A := A.below hb
 replace U := U.below hb
 replace L : Below w.heap.size w W2 := L.trans (hb.mono L.size)
 clear hb
 cases t5 : labOk bc nc fc gc
 ·refine hK1.out _ _ ?_
  clear hK1 K1
  refine Seq.falls 2 45 rfl (by kernel_rfl) (fun T hT => ?_)
  go_wp2
  go_ret
  exact ⟨ret_falls hT (by simp [stepC, t2, t3, t4, t5]), L⟩
 refine hK1.out _ _ ?_
 clear hK1 K1
 try simp only [ap, List.set]
 refine Seq.tk 29 40 (.bool true) ?_
 simp only [ap, List.set]
 refine Seq.tk 30 41 (.bool true) ?_
 simp only [ap, List.set]
 refine Seq.tk 31 42 (.pointer (some ⟨PU, 5, none⟩)) ?_
 simp only [ap, List.set]
 refine Seq.tk 32 43 (.bool ue) ?_ (hv := by obtain ⟨c0, c1, c2, c3, c4, c5, c6, c7, c8, c9⟩ := A.ten; obtain ⟨v0, v1, v2, v3, v4, v5⟩ := U.six; go_simp)
 simp only [ap, List.set]
 refine Seq.tk 33 44 (.bool ue) ?_
 simp only [ap, List.set]
 refine Seq.opt [45, 46, 47, 48] (fun xs W => (∃ x y z, xs = [x, y, z, .bool (ue || zeroB bc nc)]) ∧ Blk W w.heap.size (.cells #[.int .i64 th, .int .i64 kind, .int .i64 id, .int .i64 to', .int .i64 cat, .string d, .int .i64 bl, .slice al nl kl, .int .i64 bc, .slice ac nc kc] 28) ∧ Blk W PU (.cells #[.bool ui, .bool ut, .bool uc, .bool ud, .bool ul, .bool ue] 55) ∧ Below w.heap.size w W) 38 ?_ (fun REST => ?_)
 rotate_left
 ·cases ue
  ·skip
   refine Seq.tk 34 45 (.pointer (some ⟨w.heap.size, 8, none⟩)) ?_
   simp only [ap, List.set]
   refine Seq.tk 35 46 (.agg #[.int .i64 bc, .slice ac nc kc]) ?_ (hv := by obtain ⟨c0, c1, c2, c3, c4, c5, c6, c7, c8, c9⟩ := A.ten; obtain ⟨v0, v1, v2, v3, v4, v5⟩ := U.six; go_simp)
   simp only [ap, List.set]
   refine Seq.step rfl (fun K1 hK1 => ?_)
   go_simp
   refine (isZero_any _ _ _ _ _ hnc).mono ?_
   rintro e W2 ⟨rfl, hb⟩
   replace A := A.below hb
   replace U := U.below hb
   replace L : Below w.heap.size w W2 := L.trans (hb.mono L.size)
   clear hb
   refine hK1.out _ _ ?_
   clear hK1 K1
   try simp only [ap, List.set]
   refine Seq.tk 37 48 (.bool (zeroB bc nc)) ?_
   simp only [ap, List.set]
   exact REST _ _ ⟨⟨_, _, _, rfl⟩, A, U, L⟩
  ·refine Seq.pass (j := 37) 3 rfl (by kernel_rfl) ?_
   refine Seq.tk 37 48 (.bool true) ?_
   simp only [ap, List.set]
   exact REST _ _ ⟨⟨undef, undef, undef, rfl⟩, A, U, L⟩
 clear A U L
 rintro xs W ⟨⟨x, y, z, rfl⟩, A, U, L⟩
 simp only [putsV, ap, List.set]
 cases t6 : (ue || zeroB bc nc)
 ·refine Seq.falls 2 36 rfl (by kernel_rfl) (fun T hT => ?_)
  go_wp2
  go_ret
  exact ⟨ret_falls hT (by simp [stepC, t2, t3, t4, t5, t6]), L⟩
 refine Seq.tk 38 49 (.bool true) ?_
 simp only [ap, List.set]
 refine Seq.tk 39 50 (.bool true) ?_
 simp only [ap, List.set]
 refine Seq.tk 40 51 (.pointer (some ⟨w.heap.size, 5, none⟩)) ?_
 simp only [ap, List.set]
 refine Seq.tk 41 52 (.string d) ?_ (hv := by obtain ⟨c0, c1, c2, c3, c4, c5, c6, c7, c8, c9⟩ := A.ten; obtain ⟨v0, v1, v2, v3, v4, v5⟩ := U.six; go_simp)
 simp only [ap, List.set]
 refine Seq.step rfl (fun K1 hK1 => ?_)
 go_simp
 refine (isData_any d _ hd).mono ?_
 rintro e W2 ⟨rfl, hb⟩
 replace A := A.below hb
 replace U := U.below hb
 replace L : Below w.heap.size w W2 := L.trans (hb.mono L.size)
 clear hb
 cases t7 : plainB d 40
 ·refine hK1.out _ _ ?_
  clear hK1 K1
  refine Seq.falls 2 31 rfl (by kernel_rfl) (fun T hT => ?_)
  go_wp2
  go_ret
  exact ⟨ret_falls hT (by simp [stepC, t2, t3, t4, t5, t6, t7]), L⟩
 refine hK1.out _ _ ?_
 clear hK1 K1
 try simp only [ap, List.set]
 refine Seq.tk 43 54 (.bool true) ?_
 simp only [ap, List.set]
 refine Seq.tk 44 55 (.bool true) ?_
 simp only [ap, List.set]
 refine Seq.tk 45 56 (.pointer (some ⟨PU, 3, none⟩)) ?_
 simp only [ap, List.set]
 refine Seq.tk 46 57 (.bool ud) ?_ (hv := by obtain ⟨c0, c1, c2, c3, c4, c5, c6, c7, c8, c9⟩ := A.ten; obtain ⟨v0, v1, v2, v3, v4, v5⟩ := U.six; go_simp)
 simp only [ap, List.set]
 refine Seq.tk 47 58 (.bool ud) ?_
 simp only [ap, List.set]
 refine Seq.opt [59, 60, 61, 62] (fun xs W => (∃ x y z, xs = [x, y, z, .bool (ud || noText d)]) ∧ Blk W w.heap.size (.cells #[.int .i64 th, .int .i64 kind, .int .i64 id, .int .i64 to', .int .i64 cat, .string d, .int .i64 bl, .slice al nl kl, .int .i64 bc, .slice ac nc kc] 28) ∧ Blk W PU (.cells #[.bool ui, .bool ut, .bool uc, .bool ud, .bool ul, .bool ue] 55) ∧ Below w.heap.size w W) 52 ?_ (fun REST => ?_)
 rotate_left
 ·cases ud
  ·skip
   refine Seq.tk 48 59 (.pointer (some ⟨w.heap.size, 5, none⟩)) ?_
   simp only [ap, List.set]
   refine Seq.tk 49 60 (.string d) ?_ (hv := by obtain ⟨c0, c1, c2, c3, c4, c5, c6, c7, c8, c9⟩ := A.ten; obtain ⟨v0, v1, v2, v3, v4, v5⟩ := U.six; go_simp)
   simp only [ap, List.set]
   refine Seq.tk 50 61 (.bool (noText d)) ?_ (hv := by unfold noText; go_simp)
   simp only [ap, List.set]
   refine Seq.tk 51 62 (.bool (noText d)) ?_
   simp only [ap, List.set]
   exact REST _ _ ⟨⟨_, _, _, rfl⟩, A, U, L⟩
  ·refine Seq.pass (j := 51) 3 rfl (by kernel_rfl) ?_
   refine Seq.tk 51 62 (.bool true) ?_
   simp only [ap, List.set]
   exact REST _ _ ⟨⟨undef, undef, undef, rfl⟩, A, U, L⟩
 clear A U L
 rintro xs W ⟨⟨x, y, z, rfl⟩, A, U, L⟩
 simp only [putsV, ap, List.set]
 cases t8 : (ud || noText d)
 ·refine Seq.falls 2 22 rfl (by kernel_rfl) (fun T hT => ?_)
  go_wp2
  go_ret
  exact ⟨ret_falls hT (by simp [stepC, t2, t3, t4, t5, t6, t7, t8]), L⟩
 refine Seq.tk 52 63 (.bool true) ?_
 simp only [ap, List.set]
 refine Seq.tk 53 64 (.bool true) ?_
 simp only [ap, List.set]
 refine Seq.tk 54 65 (.pointer (some ⟨w.heap.size, 2, none⟩)) ?_
 simp only [ap, List.set]
 refine Seq.tk 55 66 (.int .i64 id) ?_ (hv := by obtain ⟨c0, c1, c2, c3, c4, c5, c6, c7, c8, c9⟩ := A.ten; obtain ⟨v0, v1, v2, v3, v4, v5⟩ := U.six; go_simp)
 simp only [ap, List.set]
 refine Seq.tk 56 67 (.pointer (some ⟨PU, 0, none⟩)) ?_
 simp only [ap, List.set]
 refine Seq.tk 57 68 (.bool ui) ?_ (hv := by obtain ⟨c0, c1, c2, c3, c4, c5, c6, c7, c8, c9⟩ := A.ten; obtain ⟨v0, v1, v2, v3, v4, v5⟩ := U.six; go_simp)
 simp only [ap, List.set]
 refine Seq.step rfl (fun K1 hK1 => ?_)
 go_simp
 refine (numberOk_any _ _ _).mono ?_
 rintro e W2 ⟨rfl, hb⟩
 subst hb
 cases t9 : numB id ui
 ·refine hK1.out _ _ ?_
  clear hK1 K1
  refine Seq.falls 2 15 rfl (by kernel_rfl) (fun T hT => ?_)
  go_wp2
  go_ret
  exact ⟨ret_falls hT (by simp [stepC, t2, t3, t4, t5, t6, t7, t8, t9]), L⟩
 refine hK1.out _ _ ?_
 clear hK1 K1
 try simp only [ap, List.set]
 refine Seq.tk 59 70 (.bool true) ?_
 simp only [ap, List.set]
 refine Seq.tk 60 71 (.bool true) ?_
 simp only [ap, List.set]
 refine Seq.tk 61 72 (.pointer (some ⟨w.heap.size, 3, none⟩)) ?_
 simp only [ap, List.set]
 refine Seq.tk 62 73 (.int .i64 to') ?_ (hv := by obtain ⟨c0, c1, c2, c3, c4, c5, c6, c7, c8, c9⟩ := A.ten; obtain ⟨v0, v1, v2, v3, v4, v5⟩ := U.six; go_simp)
 simp only [ap, List.set]
 refine Seq.tk 63 74 (.pointer (some ⟨PU, 1, none⟩)) ?_
 simp only [ap, List.set]
 refine Seq.tk 64 75 (.bool ut) ?_ (hv := by obtain ⟨c0, c1, c2, c3, c4, c5, c6, c7, c8, c9⟩ := A.ten; obtain ⟨v0, v1, v2, v3, v4, v5⟩ := U.six; go_simp)
 simp only [ap, List.set]
 refine Seq.step rfl (fun K1 hK1 => ?_)
 go_simp
 refine (numberOk_any _ _ _).mono ?_
 rintro e W2 ⟨rfl, hb⟩
 subst hb
 cases t10 : numB to' ut
 ·refine hK1.out _ _ ?_
  clear hK1 K1
  refine Seq.falls 2 8 rfl (by kernel_rfl) (fun T hT => ?_)
  go_wp2
  go_ret
  exact ⟨ret_falls hT (by simp [stepC, t2, t3, t4, t5, t6, t7, t8, t9, t10]), L⟩
 refine hK1.out _ _ ?_
 clear hK1 K1
 try simp only [ap, List.set]
 refine Seq.tk 66 77 (.bool true) ?_
 simp only [ap, List.set]
 refine Seq.tk 67 78 (.bool true) ?_
 simp only [ap, List.set]
 refine Seq.tk 68 79 (.agg #[.int .i64 th, .int .i64 kind, .int .i64 id, .int .i64 to', .int .i64 cat, .string d, .int .i64 bl, .slice al nl kl, .int .i64 bc, .slice ac nc kc]) ?_ (hv := by obtain ⟨c0, c1, c2, c3, c4, c5, c6, c7, c8, c9⟩ := A.ten; obtain ⟨v0, v1, v2, v3, v4, v5⟩ := U.six; go_simp)
 simp only [ap, List.set]
 refine Seq.tk 69 80 (.pointer (some ⟨PU, 2, none⟩)) ?_
 simp only [ap, List.set]
 refine Seq.tk 70 81 (.bool uc) ?_ (hv := by obtain ⟨c0, c1, c2, c3, c4, c5, c6, c7, c8, c9⟩ := A.ten; obtain ⟨v0, v1, v2, v3, v4, v5⟩ := U.six; go_simp)
 simp only [ap, List.set]
 refine Seq.step rfl (fun K1 hK1 => ?_)
 go_simp
 refine (catOk_any _ _ _ _ _ _ _ _ _ _ _ _ _ _ _ _).mono ?_
 rintro e W2 ⟨rfl, hb⟩
 replace A := A.below hb
 replace U := U.below hb
 replace L : Below w.heap.size w W2 := L.trans (hb.mono L.size)
 clear hb
 refine hK1.out _ _ ?_
 clear hK1 K1
 try simp only [ap, List.set]
 refine Seq.tk 72 83 (.bool (catB kind cat uc)) ?_
 simp only [ap, List.set]
 refine Seq.tk 73 2 (.bool (catB kind cat uc)) ?_
 simp only [ap, List.set]
 refine Seq.done (Nat.le_of_eq (by rfl)) ?_
 go_wp2
 go_ret
 exact ⟨ret_bool (by simp [stepC, t2, t3, t4, t5, t6, t7, t8, t9, t10]), L⟩
end Go.Proofs.YthbmfbnnemgbpaaGreatDoor
namespace Go.Proofs.YthbmfbnnemgbpaaGreatDoor
open Go Go.RowKit Go.Deep Go.Maps
def stepT (X1 X2 X3 X4 X5 X6 X7 X8 : ByteArray) : ByteArray := X1 ++ ⟨#[32]⟩ ++ X2 ++ ⟨#[32]⟩ ++ X3 ++ ⟨#[32]⟩ ++ X4 ++ ⟨#[32]⟩ ++ X5 ++ ⟨#[32]⟩ ++ X6 ++ ⟨#[32]⟩ ++ X7 ++ ⟨#[32]⟩ ++ X8
theorem stepT_join (X1 X2 X3 X4 X5 X6 X7 X8 : ByteArray) : (⟨(Lib.join ([X1, X2, X3, X4, X5, X6, X7, X8].map (·.data.toList)) (⟨#[32]⟩ : ByteArray).data.toList).toArray⟩ : ByteArray) = stepT X1 X2 X3 X4 X5 X6 X7 X8 := by
 unfold stepT
 apply ByteArray.ext
 apply Array.ext'
 simp [Lib.join]
theorem decB_size (x : Int) (h : x ≤ 9999) : (decB x).size ≤ 10001 := by
 have a1 := decL_len x.toNat
 unfold decB
 rw [size_of]
 omega
theorem step_is (th kind id to' cat : Int) (d : ByteArray) (bl : Int) (nl : Nat) (fl gl : Nat → Int) (bc : Int) (nc : Nat) (fc gc : Nat → Int) (h : stepOk th kind id to' cat d bl nl fl gl bc nc fc gc = true) :
 (0 ≤ th ∧ th ≤ 9999) ∧ (0 ≤ kind ∧ kind ≤ 9999) ∧ (0 ≤ id ∧ id ≤ 9999) ∧ (0 ≤ to' ∧ to' ≤ 9999) ∧ (0 ≤ cat ∧ cat ≤ 9999) ∧ d.size ≤ 40 ∧ labOk bl nl fl gl = true ∧ labOk bc nc fc gc = true := by
 unfold stepOk stepC at h
 simp only [Bool.and_eq_true] at h
 obtain ⟨⟨⟨⟨⟨⟨⟨⟨⟨⟨h1, h2⟩, h3⟩, h4⟩, h5⟩, h6⟩, h7⟩, h8⟩, h9⟩, h10⟩, h11⟩ := h
 have ht := inB_iff.1 h2
 have num : ∀ (x : Int) (u : Bool), numB x u = true → 0 ≤ x ∧ x ≤ 9999 := fun x u hx => by
  unfold numB at hx
  split at hx
  ·have := inB_iff.1 hx; omega
  ·have := eq_of_beq hx; omega
 refine ⟨by omega, ?_, num _ _ h9, num _ _ h10, ?_, ?_, h3, h5⟩
 ·unfold uOk at h1
  simp only [Bool.or_eq_true, beq_iff_eq] at h1
  omega
 ·unfold catB at h11
  split at h11
  ·rename_i c; have := eq_of_beq c; omega
  ·rw [Bool.and_eq_true] at h11
   have := inB_iff.1 h11.2
   omega
 ·unfold plainB at h7
  rw [Bool.and_eq_true, decide_eq_true_eq] at h7
  omega
theorem labB_size {bl : Int} {nl : Nat} {fl gl : Nat → Int} (h : labOk bl nl fl gl = true) : (⟨(txt bl (catsTo fl gl nl)).toArray⟩ : ByteArray).size ≤ 300000000000 ∧ nl ≤ 12 ∧ (0 ≤ bl ∧ bl ≤ 10000000000) ∧ (∀ i, i < nl → 0 ≤ fl i ∧ fl i ≤ 10000000000) ∧ (∀ i, i < nl → 0 ≤ gl i ∧ gl i ≤ 10000000000) := by
 obtain ⟨h1, h2, h3⟩ := labOk_out h
 have hb := inB_iff.1 h1
 have hc : ∀ i, i < nl → (0 ≤ fl i ∧ fl i ≤ 9999) ∧ (0 ≤ gl i ∧ gl i ≤ 3) := fun i hi => by
  have := h3 i hi
  unfold catOk at this
  simp only [Bool.and_eq_true] at this
  have a1 := inB_iff.1 this.1.1.1
  have a2 := inB_iff.1 this.1.1.2
  omega
 have hl := txt_len bl fl gl nl (by omega) (fun i hi => by have := hc i hi; omega)
 refine ⟨?_, h2, by omega, fun i hi => by have := hc i hi; omega, fun i hi => by have := hc i hi; omega⟩
 rw [size_of]
 have : nl * 20000000010 ≤ 12 * 20000000010 := Nat.mul_le_mul_right _ h2
 omega
end Go.Proofs.YthbmfbnnemgbpaaGreatDoor
