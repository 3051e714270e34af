/- FnJoin: the walk: the law answers true at every code that came in, and writes nothing that was there. -/
import Derived.Test.YtjmfaffghkclbaaRK
import Derived.Test.YtjmfaffghkclbaaRC
import Derived.Test.YtjmfaffghkclbaaJB
import Derived.Test.YtjmfaffghkclbaaJC
import Derived.Test.YtjmfaffghkclbaaJD
import Derived.Test.YtjmfaffghkclbaaJE
namespace Go.Proofs.Ytjmfaffghkclbaa
open Go.RowKit Go.Deep Go.Maps

section
variable {P : Program} {ops : Array Oper} {Q : Exit → Act → World → Prop} {md : Region.Mode} {S : World → Prop} {n : Nat}
theorem AnyL.takeD {i d : Nat} {oi : Oper} (v : Value) {f : Nat} {L : Array Bool} {a : Act} {w : World} (hi : ops[i]? = some oi) (hd : oi.dst = some d) (hs : Region.noSelect ops = true) (hf : Region.free md ops L i = true)
    (hr : (Region.ready md ops L).contains i = true) (hw : waits md ops n i = true) (hQ : ∀ c a w, Q (.panic c) (a.put (some d) v) w → Q (.panic c) a w) (hS : S w)
    (hy : YieldsIf P ops S oi v a) (h : AnyL P md ops Q S n f (L.setIfInBounds i true) (a.put (some d) v) w) : AnyL P md ops Q S n (f + 1) L a w :=
  AnyL.take v hi hs hf hr hw (by rw [hd]; exact hQ) hS hy (by rw [hd]; exact h)
/-- an operation that is not wanted is passed by -/
theorem AnyL.skip {i d : Nat} {oi : Oper} {f : Nat} {L : Array Bool} {a : Act} {w : World} (hi : ops[i]? = some oi) (hd : oi.dst = some d) (hs : Region.noSelect ops = true) (hf : Region.free md ops L i = true)
    (hr : (Region.ready md ops L).contains i = true) (hw : waits md ops n i = true) (hQ : ∀ c a w, Q (.panic c) (a.put (some d) undef) w → Q (.panic c) a w) (hS : S w)
    (hun : Region.wanted oi (yielded ops a.tmps) = false) (h : AnyL P md ops Q S n f (L.setIfInBounds i true) (a.put (some d) undef) w) : AnyL P md ops Q S n (f + 1) L a w :=
  AnyL.take undef hi hs hf hr hw (by rw [hd]; exact hQ) hS (Or.inr ⟨hun, rfl⟩) (by rw [hd]; exact h)
end

/-- what the laws ask of the join and the meet -/
theorem join_facts (b1 : Int) (l1 : List (Int × Int)) (b2 : Int) (l2 : List (Int × Int)) (b3 : Int) (l3 : List (Int × Int)) (h : mgOk max b1 l1.length (fstAt l1) (sndAt l1) b2 l2.length (fstAt l2) (sndAt l2) = true) :
    leqB b1 l1.length (fstAt l1) (sndAt l1) (mgBase max b1 l1.length (fstAt l1) (sndAt l1) b2 l2.length (fstAt l2) (sndAt l2)) (mgList max b1 l1.length (fstAt l1) (sndAt l1) b2 l2.length (fstAt l2) (sndAt l2)).length (fstAt (mgList max b1 l1.length (fstAt l1) (sndAt l1) b2 l2.length (fstAt l2) (sndAt l2))) (sndAt (mgList max b1 l1.length (fstAt l1) (sndAt l1) b2 l2.length (fstAt l2) (sndAt l2))) = true ∧
    leqB b2 l2.length (fstAt l2) (sndAt l2) (mgBase max b1 l1.length (fstAt l1) (sndAt l1) b2 l2.length (fstAt l2) (sndAt l2)) (mgList max b1 l1.length (fstAt l1) (sndAt l1) b2 l2.length (fstAt l2) (sndAt l2)).length (fstAt (mgList max b1 l1.length (fstAt l1) (sndAt l1) b2 l2.length (fstAt l2) (sndAt l2))) (sndAt (mgList max b1 l1.length (fstAt l1) (sndAt l1) b2 l2.length (fstAt l2) (sndAt l2))) = true ∧
    leqB (mgBase max b1 l1.length (fstAt l1) (sndAt l1) b2 l2.length (fstAt l2) (sndAt l2)) (mgList max b1 l1.length (fstAt l1) (sndAt l1) b2 l2.length (fstAt l2) (sndAt l2)).length (fstAt (mgList max b1 l1.length (fstAt l1) (sndAt l1) b2 l2.length (fstAt l2) (sndAt l2))) (sndAt (mgList max b1 l1.length (fstAt l1) (sndAt l1) b2 l2.length (fstAt l2) (sndAt l2))) b3 l3.length (fstAt l3) (sndAt l3) = (leqB b1 l1.length (fstAt l1) (sndAt l1) b3 l3.length (fstAt l3) (sndAt l3) && leqB b2 l2.length (fstAt l2) (sndAt l2) b3 l3.length (fstAt l3) (sndAt l3)) := by
  have e1 : mgBase max b1 l1.length (fstAt l1) (sndAt l1) b2 l2.length (fstAt l2) (sndAt l2) = max b1 b2 := by simp [mgBase, h]
  have e2 : mgList max b1 l1.length (fstAt l1) (sndAt l1) b2 l2.length (fstAt l2) (sndAt l2) = mgAll max b1 l1.length (fstAt l1) (sndAt l1) b2 l2.length (fstAt l2) (sndAt l2) := by simp [mgList, h]
  rw [e1, e2]
  exact ⟨join_a h, join_b h, join_c h⟩
theorem meet_facts (b1 : Int) (l1 : List (Int × Int)) (b2 : Int) (l2 : List (Int × Int)) (b3 : Int) (l3 : List (Int × Int)) (h : mgOk min b1 l1.length (fstAt l1) (sndAt l1) b2 l2.length (fstAt l2) (sndAt l2) = true) :
    leqB (mgBase min b1 l1.length (fstAt l1) (sndAt l1) b2 l2.length (fstAt l2) (sndAt l2)) (mgList min b1 l1.length (fstAt l1) (sndAt l1) b2 l2.length (fstAt l2) (sndAt l2)).length (fstAt (mgList min b1 l1.length (fstAt l1) (sndAt l1) b2 l2.length (fstAt l2) (sndAt l2))) (sndAt (mgList min b1 l1.length (fstAt l1) (sndAt l1) b2 l2.length (fstAt l2) (sndAt l2))) b1 l1.length (fstAt l1) (sndAt l1) = true ∧
    leqB (mgBase min b1 l1.length (fstAt l1) (sndAt l1) b2 l2.length (fstAt l2) (sndAt l2)) (mgList min b1 l1.length (fstAt l1) (sndAt l1) b2 l2.length (fstAt l2) (sndAt l2)).length (fstAt (mgList min b1 l1.length (fstAt l1) (sndAt l1) b2 l2.length (fstAt l2) (sndAt l2))) (sndAt (mgList min b1 l1.length (fstAt l1) (sndAt l1) b2 l2.length (fstAt l2) (sndAt l2))) b2 l2.length (fstAt l2) (sndAt l2) = true ∧
    leqB b3 l3.length (fstAt l3) (sndAt l3) (mgBase min b1 l1.length (fstAt l1) (sndAt l1) b2 l2.length (fstAt l2) (sndAt l2)) (mgList min b1 l1.length (fstAt l1) (sndAt l1) b2 l2.length (fstAt l2) (sndAt l2)).length (fstAt (mgList min b1 l1.length (fstAt l1) (sndAt l1) b2 l2.length (fstAt l2) (sndAt l2))) (sndAt (mgList min b1 l1.length (fstAt l1) (sndAt l1) b2 l2.length (fstAt l2) (sndAt l2))) = (leqB b3 l3.length (fstAt l3) (sndAt l3) b1 l1.length (fstAt l1) (sndAt l1) && leqB b3 l3.length (fstAt l3) (sndAt l3) b2 l2.length (fstAt l2) (sndAt l2)) := by
  have e1 : mgBase min b1 l1.length (fstAt l1) (sndAt l1) b2 l2.length (fstAt l2) (sndAt l2) = min b1 b2 := by simp [mgBase, h]
  have e2 : mgList min b1 l1.length (fstAt l1) (sndAt l1) b2 l2.length (fstAt l2) (sndAt l2) = mgAll min b1 l1.length (fstAt l1) (sndAt l1) b2 l2.length (fstAt l2) (sndAt l2) := by simp [mgList, h]
  rw [e1, e2]
  exact ⟨meet_a h, meet_b h, meet_c h⟩

set_option maxRecDepth 100000 in
set_option maxHeartbeats 16000000 in
theorem join_walk (a : Option Addr) (n cap : Nat) (w : World) (hb : BytesAt w a n) :
    Calls Try.prog 4 #[.slice a n cap] w fun e w' => e = .returned (.bool true) ∧ Below w.heap.size w w' := by
  have HB : Hid (BytesAt w a n) := hb
  clear hb
  go_enter Try.func4, Try.ntmps4
  go_wp2_with fail
  refine (big_any _ _ _ _).mono ?_
  rintro e w1 ⟨rfl, rfl⟩
  by_cases hn : 1048576 < n
  · have hn' : decide (1048576 < n) = true := by simpa using hn
    rw [hn']
    go_wp2
    go_ret
    exact ⟨rfl, Below.refl _ _⟩
  · have hn' : decide (1048576 < n) = false := by simpa using hn
    rw [hn']
    have hn1 : n ≤ 1048576 := by omega
    clear hn hn'
    go_wp2_with fail
    refine (drawJoin_any a n cap _ hn1 HB.out).mono ?_
    rintro e w2 ⟨b1, l1, a1, c1, b2, l2, a2, c2, rfl, k1, k2, C1, C2, E2⟩
    have XA : Blk ((w2.alloc (.cells #[.int .i64 b1, .slice a1 l1.length c1] 26)).alloc (.cells #[.int .i64 b2, .slice a2 l2.length c2] 26)) w2.heap.size (.cells #[.int .i64 b1, .slice a1 l1.length c1] 26) := (Blk.new _ _).alloc _
    have XB : Blk ((w2.alloc (.cells #[.int .i64 b1, .slice a1 l1.length c1] 26)).alloc (.cells #[.int .i64 b2, .slice a2 l2.length c2] 26)) (w2.heap.size + 1) (.cells #[.int .i64 b2, .slice a2 l2.length c2] 26) := by
      have := Blk.new (w2.alloc (.cells #[.int .i64 b1, .slice a1 l1.length c1] 26)) (.cells #[.int .i64 b2, .slice a2 l2.length c2] 26)
      simpa using this
    have K2 : Below w2.heap.size w2 ((w2.alloc (.cells #[.int .i64 b1, .slice a1 l1.length c1] 26)).alloc (.cells #[.int .i64 b2, .slice a2 l2.length c2] 26)) := ((Below.refl _ _).alloc (Nat.le_refl _) _).alloc (by simp) _
    go_wp2_with fail
    generalize (w2.alloc (.cells #[.int .i64 b1, .slice a1 l1.length c1] 26)).alloc (.cells #[.int .i64 b2, .slice a2 l2.length c2] 26) = W2 at *
    have LA2 : LabAt W2 w2.heap.size b1 l1 a1 c1 := ⟨XA, C1.below K2⟩
    have LB2 : LabAt W2 (w2.heap.size + 1) b2 l2 a2 c2 := ⟨XB, C2.below K2⟩
    have E2' : Below w1.heap.size w1 W2 := E2.trans (K2.mono E2.size)
    clear XA XB C1 C2 K2 E2
    generalize w2.heap.size + 1 = PB at *
    generalize w2.heap.size = PA at *
    refine (drawText_any a n cap _ hn1 (HB.out.below E2')).mono ?_
    rintro e w3 ⟨b3, l3, a3, c3, rfl, k3, C3, E3⟩
    have K3 := (Below.refl _ w3).alloc (Nat.le_refl _) (.cells #[.int .i64 b3, .slice a3 l3.length c3] 26)
    have LA3 := (LA2.below E3).below K3
    have LB3 := (LB2.below E3).below K3
    have LC3 : LabAt (w3.alloc (.cells #[.int .i64 b3, .slice a3 l3.length c3] 26)) w3.heap.size b3 l3 a3 c3 := ⟨Blk.new _ _, C3.below K3⟩
    have E3' : Below w1.heap.size w1 (w3.alloc (.cells #[.int .i64 b3, .slice a3 l3.length c3] 26)) := (E2'.trans (E3.mono E2'.size)).alloc (Nat.le_trans E2'.size E3.size) _
    clear LA2 LB2 E2' E3 K3 C3 HB
    obtain ⟨x1, x2⟩ := LA3.two
    obtain ⟨x3, x4⟩ := LB3.two
    go_wp2_with fail
    generalize w3.alloc (.cells #[.int .i64 b3, .slice a3 l3.length c3] 26) = W3 at *
    generalize w3.heap.size = PC at *
    clear x1 x2 x3 x4
    have hlj : (mgList max b1 l1.length (fstAt l1) (sndAt l1) b2 l2.length (fstAt l2) (sndAt l2)).length ≤ 12 := mgList_len
    have hlm : (mgList min b1 l1.length (fstAt l1) (sndAt l1) b2 l2.length (fstAt l2) (sndAt l2)).length ≤ 12 := mgList_len
    have IJ : Hid (∀ v : World, CatsAt v a1 l1.length (fstAt l1) (sndAt l1) → CatsAt v a2 l2.length (fstAt l2) (sndAt l2) → Calls Try.prog 28 #[.agg #[.int .i64 b1, .slice a1 l1.length c1], .agg #[.int .i64 b2, .slice a2 l2.length c2]] v fun e w' => LabPost (mgBase max b1 l1.length (fstAt l1) (sndAt l1) b2 l2.length (fstAt l2) (sndAt l2)) (mgList max b1 l1.length (fstAt l1) (sndAt l1) b2 l2.length (fstAt l2) (sndAt l2)) (mgOk max b1 l1.length (fstAt l1) (sndAt l1) b2 l2.length (fstAt l2) (sndAt l2)) v e w') := fun v h0 h1 => implJoin_any _ _ _ _ _ _ _ _ _ _ _ _ _ (by unfold maxLen; omega) (by unfold maxLen; omega) h0 h1
    have IM : Hid (∀ v : World, CatsAt v a1 l1.length (fstAt l1) (sndAt l1) → CatsAt v a2 l2.length (fstAt l2) (sndAt l2) → Calls Try.prog 29 #[.agg #[.int .i64 b1, .slice a1 l1.length c1], .agg #[.int .i64 b2, .slice a2 l2.length c2]] v fun e w' => LabPost (mgBase min b1 l1.length (fstAt l1) (sndAt l1) b2 l2.length (fstAt l2) (sndAt l2)) (mgList min b1 l1.length (fstAt l1) (sndAt l1) b2 l2.length (fstAt l2) (sndAt l2)) (mgOk min b1 l1.length (fstAt l1) (sndAt l1) b2 l2.length (fstAt l2) (sndAt l2)) v e w') := fun v h0 h1 => implMeet_any _ _ _ _ _ _ _ _ _ _ _ _ _ (by unfold maxLen; omega) (by unfold maxLen; omega) h0 h1
    have SJ : Hid (∀ v : World, CatsAt v a1 l1.length (fstAt l1) (sndAt l1) → CatsAt v a2 l2.length (fstAt l2) (sndAt l2) → Calls Try.prog 30 #[.agg #[.int .i64 b1, .slice a1 l1.length c1], .agg #[.int .i64 b2, .slice a2 l2.length c2]] v fun e w' => LabPost (mgBase max b1 l1.length (fstAt l1) (sndAt l1) b2 l2.length (fstAt l2) (sndAt l2)) (mgList max b1 l1.length (fstAt l1) (sndAt l1) b2 l2.length (fstAt l2) (sndAt l2)) (mgOk max b1 l1.length (fstAt l1) (sndAt l1) b2 l2.length (fstAt l2) (sndAt l2)) v e w') := fun v h0 h1 => specJoin_any _ _ _ _ _ _ _ _ _ _ _ _ _ (by unfold maxLen; omega) (by unfold maxLen; omega) h0 h1
    have SM : Hid (∀ v : World, CatsAt v a1 l1.length (fstAt l1) (sndAt l1) → CatsAt v a2 l2.length (fstAt l2) (sndAt l2) → Calls Try.prog 31 #[.agg #[.int .i64 b1, .slice a1 l1.length c1], .agg #[.int .i64 b2, .slice a2 l2.length c2]] v fun e w' => LabPost (mgBase min b1 l1.length (fstAt l1) (sndAt l1) b2 l2.length (fstAt l2) (sndAt l2)) (mgList min b1 l1.length (fstAt l1) (sndAt l1) b2 l2.length (fstAt l2) (sndAt l2)) (mgOk min b1 l1.length (fstAt l1) (sndAt l1) b2 l2.length (fstAt l2) (sndAt l2)) v e w') := fun v h0 h1 => specMeet_any _ _ _ _ _ _ _ _ _ _ _ _ _ (by unfold maxLen; omega) (by unfold maxLen; omega) h0 h1
    have Iaj : Hid (∀ (aj : Option Addr) (cj : Nat), ∀ v : World, CatsAt v a1 l1.length (fstAt l1) (sndAt l1) → CatsAt v aj (mgList max b1 l1.length (fstAt l1) (sndAt l1) b2 l2.length (fstAt l2) (sndAt l2)).length (fstAt (mgList max b1 l1.length (fstAt l1) (sndAt l1) b2 l2.length (fstAt l2) (sndAt l2))) (sndAt (mgList max b1 l1.length (fstAt l1) (sndAt l1) b2 l2.length (fstAt l2) (sndAt l2))) → Calls Try.prog 32 #[.agg #[.int .i64 b1, .slice a1 l1.length c1], .agg #[.int .i64 (mgBase max b1 l1.length (fstAt l1) (sndAt l1) b2 l2.length (fstAt l2) (sndAt l2)), .slice aj (mgList max b1 l1.length (fstAt l1) (sndAt l1) b2 l2.length (fstAt l2) (sndAt l2)).length cj]] v fun e w' => e = .returned (.bool (leqB b1 l1.length (fstAt l1) (sndAt l1) (mgBase max b1 l1.length (fstAt l1) (sndAt l1) b2 l2.length (fstAt l2) (sndAt l2)) (mgList max b1 l1.length (fstAt l1) (sndAt l1) b2 l2.length (fstAt l2) (sndAt l2)).length (fstAt (mgList max b1 l1.length (fstAt l1) (sndAt l1) b2 l2.length (fstAt l2) (sndAt l2))) (sndAt (mgList max b1 l1.length (fstAt l1) (sndAt l1) b2 l2.length (fstAt l2) (sndAt l2))))) ∧ Below v.heap.size v w') := fun aj cj v h0 h1 => implLeq_any _ _ _ _ _ _ _ _ _ _ _ _ _ (by unfold maxLen; omega) (by unfold maxLen; omega) h0 h1
    have Ibj : Hid (∀ (aj : Option Addr) (cj : Nat), ∀ v : World, CatsAt v a2 l2.length (fstAt l2) (sndAt l2) → CatsAt v aj (mgList max b1 l1.length (fstAt l1) (sndAt l1) b2 l2.length (fstAt l2) (sndAt l2)).length (fstAt (mgList max b1 l1.length (fstAt l1) (sndAt l1) b2 l2.length (fstAt l2) (sndAt l2))) (sndAt (mgList max b1 l1.length (fstAt l1) (sndAt l1) b2 l2.length (fstAt l2) (sndAt l2))) → Calls Try.prog 32 #[.agg #[.int .i64 b2, .slice a2 l2.length c2], .agg #[.int .i64 (mgBase max b1 l1.length (fstAt l1) (sndAt l1) b2 l2.length (fstAt l2) (sndAt l2)), .slice aj (mgList max b1 l1.length (fstAt l1) (sndAt l1) b2 l2.length (fstAt l2) (sndAt l2)).length cj]] v fun e w' => e = .returned (.bool (leqB b2 l2.length (fstAt l2) (sndAt l2) (mgBase max b1 l1.length (fstAt l1) (sndAt l1) b2 l2.length (fstAt l2) (sndAt l2)) (mgList max b1 l1.length (fstAt l1) (sndAt l1) b2 l2.length (fstAt l2) (sndAt l2)).length (fstAt (mgList max b1 l1.length (fstAt l1) (sndAt l1) b2 l2.length (fstAt l2) (sndAt l2))) (sndAt (mgList max b1 l1.length (fstAt l1) (sndAt l1) b2 l2.length (fstAt l2) (sndAt l2))))) ∧ Below v.heap.size v w') := fun aj cj v h0 h1 => implLeq_any _ _ _ _ _ _ _ _ _ _ _ _ _ (by unfold maxLen; omega) (by unfold maxLen; omega) h0 h1
    have Iac : Hid (∀ v : World, CatsAt v a1 l1.length (fstAt l1) (sndAt l1) → CatsAt v a3 l3.length (fstAt l3) (sndAt l3) → Calls Try.prog 32 #[.agg #[.int .i64 b1, .slice a1 l1.length c1], .agg #[.int .i64 b3, .slice a3 l3.length c3]] v fun e w' => e = .returned (.bool (leqB b1 l1.length (fstAt l1) (sndAt l1) b3 l3.length (fstAt l3) (sndAt l3))) ∧ Below v.heap.size v w') := fun  v h0 h1 => implLeq_any _ _ _ _ _ _ _ _ _ _ _ _ _ (by unfold maxLen; omega) (by unfold maxLen; omega) h0 h1
    have Ibc : Hid (∀ v : World, CatsAt v a2 l2.length (fstAt l2) (sndAt l2) → CatsAt v a3 l3.length (fstAt l3) (sndAt l3) → Calls Try.prog 32 #[.agg #[.int .i64 b2, .slice a2 l2.length c2], .agg #[.int .i64 b3, .slice a3 l3.length c3]] v fun e w' => e = .returned (.bool (leqB b2 l2.length (fstAt l2) (sndAt l2) b3 l3.length (fstAt l3) (sndAt l3))) ∧ Below v.heap.size v w') := fun  v h0 h1 => implLeq_any _ _ _ _ _ _ _ _ _ _ _ _ _ (by unfold maxLen; omega) (by unfold maxLen; omega) h0 h1
    have Ijc : Hid (∀ (aj : Option Addr) (cj : Nat), ∀ v : World, CatsAt v aj (mgList max b1 l1.length (fstAt l1) (sndAt l1) b2 l2.length (fstAt l2) (sndAt l2)).length (fstAt (mgList max b1 l1.length (fstAt l1) (sndAt l1) b2 l2.length (fstAt l2) (sndAt l2))) (sndAt (mgList max b1 l1.length (fstAt l1) (sndAt l1) b2 l2.length (fstAt l2) (sndAt l2))) → CatsAt v a3 l3.length (fstAt l3) (sndAt l3) → Calls Try.prog 32 #[.agg #[.int .i64 (mgBase max b1 l1.length (fstAt l1) (sndAt l1) b2 l2.length (fstAt l2) (sndAt l2)), .slice aj (mgList max b1 l1.length (fstAt l1) (sndAt l1) b2 l2.length (fstAt l2) (sndAt l2)).length cj], .agg #[.int .i64 b3, .slice a3 l3.length c3]] v fun e w' => e = .returned (.bool (leqB (mgBase max b1 l1.length (fstAt l1) (sndAt l1) b2 l2.length (fstAt l2) (sndAt l2)) (mgList max b1 l1.length (fstAt l1) (sndAt l1) b2 l2.length (fstAt l2) (sndAt l2)).length (fstAt (mgList max b1 l1.length (fstAt l1) (sndAt l1) b2 l2.length (fstAt l2) (sndAt l2))) (sndAt (mgList max b1 l1.length (fstAt l1) (sndAt l1) b2 l2.length (fstAt l2) (sndAt l2))) b3 l3.length (fstAt l3) (sndAt l3))) ∧ Below v.heap.size v w') := fun aj cj v h0 h1 => implLeq_any _ _ _ _ _ _ _ _ _ _ _ _ _ (by unfold maxLen; omega) (by unfold maxLen; omega) h0 h1
    have Ima : Hid (∀ (am : Option Addr) (cm : Nat), ∀ v : World, CatsAt v am (mgList min b1 l1.length (fstAt l1) (sndAt l1) b2 l2.length (fstAt l2) (sndAt l2)).length (fstAt (mgList min b1 l1.length (fstAt l1) (sndAt l1) b2 l2.length (fstAt l2) (sndAt l2))) (sndAt (mgList min b1 l1.length (fstAt l1) (sndAt l1) b2 l2.length (fstAt l2) (sndAt l2))) → CatsAt v a1 l1.length (fstAt l1) (sndAt l1) → Calls Try.prog 32 #[.agg #[.int .i64 (mgBase min b1 l1.length (fstAt l1) (sndAt l1) b2 l2.length (fstAt l2) (sndAt l2)), .slice am (mgList min b1 l1.length (fstAt l1) (sndAt l1) b2 l2.length (fstAt l2) (sndAt l2)).length cm], .agg #[.int .i64 b1, .slice a1 l1.length c1]] v fun e w' => e = .returned (.bool (leqB (mgBase min b1 l1.length (fstAt l1) (sndAt l1) b2 l2.length (fstAt l2) (sndAt l2)) (mgList min b1 l1.length (fstAt l1) (sndAt l1) b2 l2.length (fstAt l2) (sndAt l2)).length (fstAt (mgList min b1 l1.length (fstAt l1) (sndAt l1) b2 l2.length (fstAt l2) (sndAt l2))) (sndAt (mgList min b1 l1.length (fstAt l1) (sndAt l1) b2 l2.length (fstAt l2) (sndAt l2))) b1 l1.length (fstAt l1) (sndAt l1))) ∧ Below v.heap.size v w') := fun am cm v h0 h1 => implLeq_any _ _ _ _ _ _ _ _ _ _ _ _ _ (by unfold maxLen; omega) (by unfold maxLen; omega) h0 h1
    have Imb : Hid (∀ (am : Option Addr) (cm : Nat), ∀ v : World, CatsAt v am (mgList min b1 l1.length (fstAt l1) (sndAt l1) b2 l2.length (fstAt l2) (sndAt l2)).length (fstAt (mgList min b1 l1.length (fstAt l1) (sndAt l1) b2 l2.length (fstAt l2) (sndAt l2))) (sndAt (mgList min b1 l1.length (fstAt l1) (sndAt l1) b2 l2.length (fstAt l2) (sndAt l2))) → CatsAt v a2 l2.length (fstAt l2) (sndAt l2) → Calls Try.prog 32 #[.agg #[.int .i64 (mgBase min b1 l1.length (fstAt l1) (sndAt l1) b2 l2.length (fstAt l2) (sndAt l2)), .slice am (mgList min b1 l1.length (fstAt l1) (sndAt l1) b2 l2.length (fstAt l2) (sndAt l2)).length cm], .agg #[.int .i64 b2, .slice a2 l2.length c2]] v fun e w' => e = .returned (.bool (leqB (mgBase min b1 l1.length (fstAt l1) (sndAt l1) b2 l2.length (fstAt l2) (sndAt l2)) (mgList min b1 l1.length (fstAt l1) (sndAt l1) b2 l2.length (fstAt l2) (sndAt l2)).length (fstAt (mgList min b1 l1.length (fstAt l1) (sndAt l1) b2 l2.length (fstAt l2) (sndAt l2))) (sndAt (mgList min b1 l1.length (fstAt l1) (sndAt l1) b2 l2.length (fstAt l2) (sndAt l2))) b2 l2.length (fstAt l2) (sndAt l2))) ∧ Below v.heap.size v w') := fun am cm v h0 h1 => implLeq_any _ _ _ _ _ _ _ _ _ _ _ _ _ (by unfold maxLen; omega) (by unfold maxLen; omega) h0 h1
    have Ica : Hid (∀ v : World, CatsAt v a3 l3.length (fstAt l3) (sndAt l3) → CatsAt v a1 l1.length (fstAt l1) (sndAt l1) → Calls Try.prog 32 #[.agg #[.int .i64 b3, .slice a3 l3.length c3], .agg #[.int .i64 b1, .slice a1 l1.length c1]] v fun e w' => e = .returned (.bool (leqB b3 l3.length (fstAt l3) (sndAt l3) b1 l1.length (fstAt l1) (sndAt l1))) ∧ Below v.heap.size v w') := fun  v h0 h1 => implLeq_any _ _ _ _ _ _ _ _ _ _ _ _ _ (by unfold maxLen; omega) (by unfold maxLen; omega) h0 h1
    have Icb : Hid (∀ v : World, CatsAt v a3 l3.length (fstAt l3) (sndAt l3) → CatsAt v a2 l2.length (fstAt l2) (sndAt l2) → Calls Try.prog 32 #[.agg #[.int .i64 b3, .slice a3 l3.length c3], .agg #[.int .i64 b2, .slice a2 l2.length c2]] v fun e w' => e = .returned (.bool (leqB b3 l3.length (fstAt l3) (sndAt l3) b2 l2.length (fstAt l2) (sndAt l2))) ∧ Below v.heap.size v w') := fun  v h0 h1 => implLeq_any _ _ _ _ _ _ _ _ _ _ _ _ _ (by unfold maxLen; omega) (by unfold maxLen; omega) h0 h1
    have Icm : Hid (∀ (am : Option Addr) (cm : Nat), ∀ v : World, CatsAt v a3 l3.length (fstAt l3) (sndAt l3) → CatsAt v am (mgList min b1 l1.length (fstAt l1) (sndAt l1) b2 l2.length (fstAt l2) (sndAt l2)).length (fstAt (mgList min b1 l1.length (fstAt l1) (sndAt l1) b2 l2.length (fstAt l2) (sndAt l2))) (sndAt (mgList min b1 l1.length (fstAt l1) (sndAt l1) b2 l2.length (fstAt l2) (sndAt l2))) → Calls Try.prog 32 #[.agg #[.int .i64 b3, .slice a3 l3.length c3], .agg #[.int .i64 (mgBase min b1 l1.length (fstAt l1) (sndAt l1) b2 l2.length (fstAt l2) (sndAt l2)), .slice am (mgList min b1 l1.length (fstAt l1) (sndAt l1) b2 l2.length (fstAt l2) (sndAt l2)).length cm]] v fun e w' => e = .returned (.bool (leqB b3 l3.length (fstAt l3) (sndAt l3) (mgBase min b1 l1.length (fstAt l1) (sndAt l1) b2 l2.length (fstAt l2) (sndAt l2)) (mgList min b1 l1.length (fstAt l1) (sndAt l1) b2 l2.length (fstAt l2) (sndAt l2)).length (fstAt (mgList min b1 l1.length (fstAt l1) (sndAt l1) b2 l2.length (fstAt l2) (sndAt l2))) (sndAt (mgList min b1 l1.length (fstAt l1) (sndAt l1) b2 l2.length (fstAt l2) (sndAt l2))))) ∧ Below v.heap.size v w') := fun am cm v h0 h1 => implLeq_any _ _ _ _ _ _ _ _ _ _ _ _ _ (by unfold maxLen; omega) (by unfold maxLen; omega) h0 h1
    have FJ : Hid (mgOk max b1 l1.length (fstAt l1) (sndAt l1) b2 l2.length (fstAt l2) (sndAt l2) = true → leqB b1 l1.length (fstAt l1) (sndAt l1) (mgBase max b1 l1.length (fstAt l1) (sndAt l1) b2 l2.length (fstAt l2) (sndAt l2)) (mgList max b1 l1.length (fstAt l1) (sndAt l1) b2 l2.length (fstAt l2) (sndAt l2)).length (fstAt (mgList max b1 l1.length (fstAt l1) (sndAt l1) b2 l2.length (fstAt l2) (sndAt l2))) (sndAt (mgList max b1 l1.length (fstAt l1) (sndAt l1) b2 l2.length (fstAt l2) (sndAt l2))) = true ∧ leqB b2 l2.length (fstAt l2) (sndAt l2) (mgBase max b1 l1.length (fstAt l1) (sndAt l1) b2 l2.length (fstAt l2) (sndAt l2)) (mgList max b1 l1.length (fstAt l1) (sndAt l1) b2 l2.length (fstAt l2) (sndAt l2)).length (fstAt (mgList max b1 l1.length (fstAt l1) (sndAt l1) b2 l2.length (fstAt l2) (sndAt l2))) (sndAt (mgList max b1 l1.length (fstAt l1) (sndAt l1) b2 l2.length (fstAt l2) (sndAt l2))) = true ∧ leqB (mgBase max b1 l1.length (fstAt l1) (sndAt l1) b2 l2.length (fstAt l2) (sndAt l2)) (mgList max b1 l1.length (fstAt l1) (sndAt l1) b2 l2.length (fstAt l2) (sndAt l2)).length (fstAt (mgList max b1 l1.length (fstAt l1) (sndAt l1) b2 l2.length (fstAt l2) (sndAt l2))) (sndAt (mgList max b1 l1.length (fstAt l1) (sndAt l1) b2 l2.length (fstAt l2) (sndAt l2))) b3 l3.length (fstAt l3) (sndAt l3) = (leqB b1 l1.length (fstAt l1) (sndAt l1) b3 l3.length (fstAt l3) (sndAt l3) && leqB b2 l2.length (fstAt l2) (sndAt l2) b3 l3.length (fstAt l3) (sndAt l3))) := fun h => join_facts b1 l1 b2 l2 b3 l3 h
    have FM : Hid (mgOk min b1 l1.length (fstAt l1) (sndAt l1) b2 l2.length (fstAt l2) (sndAt l2) = true → leqB (mgBase min b1 l1.length (fstAt l1) (sndAt l1) b2 l2.length (fstAt l2) (sndAt l2)) (mgList min b1 l1.length (fstAt l1) (sndAt l1) b2 l2.length (fstAt l2) (sndAt l2)).length (fstAt (mgList min b1 l1.length (fstAt l1) (sndAt l1) b2 l2.length (fstAt l2) (sndAt l2))) (sndAt (mgList min b1 l1.length (fstAt l1) (sndAt l1) b2 l2.length (fstAt l2) (sndAt l2))) b1 l1.length (fstAt l1) (sndAt l1) = true ∧ leqB (mgBase min b1 l1.length (fstAt l1) (sndAt l1) b2 l2.length (fstAt l2) (sndAt l2)) (mgList min b1 l1.length (fstAt l1) (sndAt l1) b2 l2.length (fstAt l2) (sndAt l2)).length (fstAt (mgList min b1 l1.length (fstAt l1) (sndAt l1) b2 l2.length (fstAt l2) (sndAt l2))) (sndAt (mgList min b1 l1.length (fstAt l1) (sndAt l1) b2 l2.length (fstAt l2) (sndAt l2))) b2 l2.length (fstAt l2) (sndAt l2) = true ∧ leqB b3 l3.length (fstAt l3) (sndAt l3) (mgBase min b1 l1.length (fstAt l1) (sndAt l1) b2 l2.length (fstAt l2) (sndAt l2)) (mgList min b1 l1.length (fstAt l1) (sndAt l1) b2 l2.length (fstAt l2) (sndAt l2)).length (fstAt (mgList min b1 l1.length (fstAt l1) (sndAt l1) b2 l2.length (fstAt l2) (sndAt l2))) (sndAt (mgList min b1 l1.length (fstAt l1) (sndAt l1) b2 l2.length (fstAt l2) (sndAt l2))) = (leqB b3 l3.length (fstAt l3) (sndAt l3) b1 l1.length (fstAt l1) (sndAt l1) && leqB b3 l3.length (fstAt l3) (sndAt l3) b2 l2.length (fstAt l2) (sndAt l2))) := fun h => meet_facts b1 l1 b2 l2 b3 l3 h
    unfold LabPost at IJ IM SJ SM
    generalize leqB b1 l1.length (fstAt l1) (sndAt l1) (mgBase max b1 l1.length (fstAt l1) (sndAt l1) b2 l2.length (fstAt l2) (sndAt l2)) (mgList max b1 l1.length (fstAt l1) (sndAt l1) b2 l2.length (fstAt l2) (sndAt l2)).length (fstAt (mgList max b1 l1.length (fstAt l1) (sndAt l1) b2 l2.length (fstAt l2) (sndAt l2))) (sndAt (mgList max b1 l1.length (fstAt l1) (sndAt l1) b2 l2.length (fstAt l2) (sndAt l2))) = qaj at *
    generalize leqB b2 l2.length (fstAt l2) (sndAt l2) (mgBase max b1 l1.length (fstAt l1) (sndAt l1) b2 l2.length (fstAt l2) (sndAt l2)) (mgList max b1 l1.length (fstAt l1) (sndAt l1) b2 l2.length (fstAt l2) (sndAt l2)).length (fstAt (mgList max b1 l1.length (fstAt l1) (sndAt l1) b2 l2.length (fstAt l2) (sndAt l2))) (sndAt (mgList max b1 l1.length (fstAt l1) (sndAt l1) b2 l2.length (fstAt l2) (sndAt l2))) = qbj at *
    generalize leqB b1 l1.length (fstAt l1) (sndAt l1) b3 l3.length (fstAt l3) (sndAt l3) = qac at *
    generalize leqB b2 l2.length (fstAt l2) (sndAt l2) b3 l3.length (fstAt l3) (sndAt l3) = qbc at *
    generalize leqB (mgBase max b1 l1.length (fstAt l1) (sndAt l1) b2 l2.length (fstAt l2) (sndAt l2)) (mgList max b1 l1.length (fstAt l1) (sndAt l1) b2 l2.length (fstAt l2) (sndAt l2)).length (fstAt (mgList max b1 l1.length (fstAt l1) (sndAt l1) b2 l2.length (fstAt l2) (sndAt l2))) (sndAt (mgList max b1 l1.length (fstAt l1) (sndAt l1) b2 l2.length (fstAt l2) (sndAt l2))) b3 l3.length (fstAt l3) (sndAt l3) = qjc at *
    generalize leqB (mgBase min b1 l1.length (fstAt l1) (sndAt l1) b2 l2.length (fstAt l2) (sndAt l2)) (mgList min b1 l1.length (fstAt l1) (sndAt l1) b2 l2.length (fstAt l2) (sndAt l2)).length (fstAt (mgList min b1 l1.length (fstAt l1) (sndAt l1) b2 l2.length (fstAt l2) (sndAt l2))) (sndAt (mgList min b1 l1.length (fstAt l1) (sndAt l1) b2 l2.length (fstAt l2) (sndAt l2))) b1 l1.length (fstAt l1) (sndAt l1) = qma at *
    generalize leqB (mgBase min b1 l1.length (fstAt l1) (sndAt l1) b2 l2.length (fstAt l2) (sndAt l2)) (mgList min b1 l1.length (fstAt l1) (sndAt l1) b2 l2.length (fstAt l2) (sndAt l2)).length (fstAt (mgList min b1 l1.length (fstAt l1) (sndAt l1) b2 l2.length (fstAt l2) (sndAt l2))) (sndAt (mgList min b1 l1.length (fstAt l1) (sndAt l1) b2 l2.length (fstAt l2) (sndAt l2))) b2 l2.length (fstAt l2) (sndAt l2) = qmb at *
    generalize leqB b3 l3.length (fstAt l3) (sndAt l3) b1 l1.length (fstAt l1) (sndAt l1) = qca at *
    generalize leqB b3 l3.length (fstAt l3) (sndAt l3) b2 l2.length (fstAt l2) (sndAt l2) = qcb at *
    generalize leqB b3 l3.length (fstAt l3) (sndAt l3) (mgBase min b1 l1.length (fstAt l1) (sndAt l1) b2 l2.length (fstAt l2) (sndAt l2)) (mgList min b1 l1.length (fstAt l1) (sndAt l1) b2 l2.length (fstAt l2) (sndAt l2)).length (fstAt (mgList min b1 l1.length (fstAt l1) (sndAt l1) b2 l2.length (fstAt l2) (sndAt l2))) (sndAt (mgList min b1 l1.length (fstAt l1) (sndAt l1) b2 l2.length (fstAt l2) (sndAt l2))) = qcm at *
    generalize mgList max b1 l1.length (fstAt l1) (sndAt l1) b2 l2.length (fstAt l2) (sndAt l2) = lj at *
    generalize mgBase max b1 l1.length (fstAt l1) (sndAt l1) b2 l2.length (fstAt l2) (sndAt l2) = bj at *
    generalize mgOk max b1 l1.length (fstAt l1) (sndAt l1) b2 l2.length (fstAt l2) (sndAt l2) = qj at *
    generalize mgList min b1 l1.length (fstAt l1) (sndAt l1) b2 l2.length (fstAt l2) (sndAt l2) = lm at *
    generalize mgBase min b1 l1.length (fstAt l1) (sndAt l1) b2 l2.length (fstAt l2) (sndAt l2) = bm at *
    generalize mgOk min b1 l1.length (fstAt l1) (sndAt l1) b2 l2.length (fstAt l2) (sndAt l2) = qm at *
    refine (IJ.out _ LA3.cats LB3.cats).mono ?_
    rintro e w4 ⟨aj, cj, rfl, po, hb4⟩
    have K4 := (Below.refl _ w4).alloc (Nat.le_refl _) (.cells #[.int .i64 bj, .slice aj lj.length cj] 26)
    have LJ4 : LabAt (w4.alloc (.cells #[.int .i64 bj, .slice aj lj.length cj] 26)) w4.heap.size bj lj aj cj := ⟨Blk.new _ _, (OwnCats.cats po).below K4⟩
    have LA4 := (LA3.below hb4).below K4
    have LB4 := (LB3.below hb4).below K4
    have LC4 := (LC3.below hb4).below K4
    have E4 : Below w1.heap.size w1 (w4.alloc (.cells #[.int .i64 bj, .slice aj lj.length cj] 26)) := (E3'.trans (hb4.mono E3'.size)).alloc (Nat.le_trans E3'.size hb4.size) _
    clear po hb4 K4 IJ E3' LA3 LB3 LC3
    obtain ⟨x1, x2⟩ := LA4.two
    obtain ⟨x3, x4⟩ := LB4.two
    go_wp2_with fail
    generalize w4.alloc (.cells #[.int .i64 bj, .slice aj lj.length cj] 26) = W4 at *
    generalize w4.heap.size = PJ at *
    clear x1 x2 x3 x4
    refine (IM.out _ LA4.cats LB4.cats).mono ?_
    rintro e w5 ⟨am, cm, rfl, po, hb5⟩
    have K5 := (Below.refl _ w5).alloc (Nat.le_refl _) (.cells #[.int .i64 bm, .slice am lm.length cm] 26)
    have LM5 : LabAt (w5.alloc (.cells #[.int .i64 bm, .slice am lm.length cm] 26)) w5.heap.size bm lm am cm := ⟨Blk.new _ _, (OwnCats.cats po).below K5⟩
    have LA5 := (LA4.below hb5).below K5
    have LB5 := (LB4.below hb5).below K5
    have LC5 := (LC4.below hb5).below K5
    have LJ5 := (LJ4.below hb5).below K5
    have E5 : Below w1.heap.size w1 (w5.alloc (.cells #[.int .i64 bm, .slice am lm.length cm] 26)) := (E4.trans (hb5.mono E4.size)).alloc (Nat.le_trans E4.size hb5.size) _
    clear po hb5 K5 IM E4 LA4 LB4 LC4 LJ4
    obtain ⟨x1, x2⟩ := LA5.two
    obtain ⟨x3, x4⟩ := LB5.two
    go_wp2_with fail
    generalize w5.alloc (.cells #[.int .i64 bm, .slice am lm.length cm] 26) = W5 at *
    generalize w5.heap.size = PM at *
    clear x1 x2 x3 x4
    refine (SJ.out _ LA5.cats LB5.cats).mono ?_
    rintro e w6 ⟨aw, cw, rfl, po, hb6⟩
    have K6 := (Below.refl _ w6).alloc (Nat.le_refl _) (.cells #[.int .i64 bj, .slice aw lj.length cw] 26)
    have LW6 : LabAt (w6.alloc (.cells #[.int .i64 bj, .slice aw lj.length cw] 26)) w6.heap.size bj lj aw cw := ⟨Blk.new _ _, (OwnCats.cats po).below K6⟩
    have LA6 := (LA5.below hb6).below K6
    have LB6 := (LB5.below hb6).below K6
    have LC6 := (LC5.below hb6).below K6
    have LJ6 := (LJ5.below hb6).below K6
    have LM6 := (LM5.below hb6).below K6
    have E6 : Below w1.heap.size w1 (w6.alloc (.cells #[.int .i64 bj, .slice aw lj.length cw] 26)) := (E5.trans (hb6.mono E5.size)).alloc (Nat.le_trans E5.size hb6.size) _
    clear po hb6 K6 SJ E5 LA5 LB5 LC5 LJ5 LM5
    obtain ⟨x1, x2⟩ := LA6.two
    obtain ⟨x3, x4⟩ := LB6.two
    go_wp2_with fail
    generalize w6.alloc (.cells #[.int .i64 bj, .slice aw lj.length cw] 26) = W6 at *
    generalize w6.heap.size = PW at *
    clear x1 x2 x3 x4
    refine (SM.out _ LA6.cats LB6.cats).mono ?_
    rintro e w7 ⟨ao, co, rfl, po, hb7⟩
    have K7 := (Below.refl _ w7).alloc (Nat.le_refl _) (.cells #[.int .i64 bm, .slice ao lm.length co] 26)
    have LO7 : LabAt (w7.alloc (.cells #[.int .i64 bm, .slice ao lm.length co] 26)) w7.heap.size bm lm ao co := ⟨Blk.new _ _, (OwnCats.cats po).below K7⟩
    have LA7 := (LA6.below hb7).below K7
    have LB7 := (LB6.below hb7).below K7
    have LC7 := (LC6.below hb7).below K7
    have LJ7 := (LJ6.below hb7).below K7
    have LM7 := (LM6.below hb7).below K7
    have LW7 := (LW6.below hb7).below K7
    have E7 : Below w1.heap.size w1 (w7.alloc (.cells #[.int .i64 bm, .slice ao lm.length co] 26)) := (E6.trans (hb7.mono E6.size)).alloc (Nat.le_trans E6.size hb7.size) _
    clear po hb7 K7 SM E6 LA6 LB6 LC6 LJ6 LM6 LW6
    obtain ⟨x1, x2⟩ := LJ7.two
    obtain ⟨x3, x4⟩ := LW7.two
    go_wp2_with fail
    generalize w7.alloc (.cells #[.int .i64 bm, .slice ao lm.length co] 26) = W7 at *
    generalize w7.heap.size = PO at *
    clear x1 x2 x3 x4
    refine (same_any _ _ _ _ _ _ _ _ _ (by omega) LJ7.cats LW7.cats).mono ?_
    rintro e w8 ⟨rfl, hb8⟩
    have E8 : Below w1.heap.size w1 w8 := E7.trans (hb8.mono E7.size)
    have LA8 := LA7.below hb8
    have LB8 := LB7.below hb8
    have LC8 := LC7.below hb8
    have LJ8 := LJ7.below hb8
    have LM8 := LM7.below hb8
    have LO8 := LO7.below hb8
    clear hb8 E7 LW7 LA7 LB7 LC7 LJ7 LM7 LO7
    obtain ⟨x1, x2⟩ := LM8.two
    obtain ⟨x3, x4⟩ := LO8.two
    go_wp2_with fail
    refine (same_any _ _ _ _ _ _ _ _ _ (by omega) LM8.cats LO8.cats).mono ?_
    rintro e w9 ⟨rfl, hb9⟩
    have E9 : Below w1.heap.size w1 w9 := E8.trans (hb9.mono E8.size)
    have LA9 := LA8.below hb9
    have LB9 := LB8.below hb9
    have LC9 := LC8.below hb9
    have LJ9 := LJ8.below hb9
    have LM9 := LM8.below hb9
    clear x1 x2 x3 x4 hb9 E8 LO8 LA8 LB8 LC8 LJ8 LM8
    go_upto_region 11 with fail
    go_cut [93] (fun t wc => t = .bool false ∧ LabAt wc PA b1 l1 a1 c1 ∧ LabAt wc PB b2 l2 a2 c2 ∧ LabAt wc PC b3 l3 a3 c3 ∧ LabAt wc PJ bj lj aj cj ∧ LabAt wc PM bm lm am cm ∧ Below w1.heap.size w1 wc)
    case first =>
      cases qj with
      | false =>
        go_wp2_with fail
        have LA9d := LA9.below (Below.refl _ w9).drew
        have LB9d := LB9.below (Below.refl _ w9).drew
        have LC9d := LC9.below (Below.refl _ w9).drew
        have LJ9d := LJ9.below (Below.refl _ w9).drew
        have LM9d := LM9.below (Below.refl _ w9).drew
        have E9d := E9.drew
        have S9d : w9.drew.cell? ⟨PA, 0, none⟩ = some (.int .i64 b1) ∧ w9.drew.cell? ⟨PA, 1, none⟩ = some (.slice a1 l1.length c1) ∧ w9.drew.cell? ⟨PB, 0, none⟩ = some (.int .i64 b2) ∧ w9.drew.cell? ⟨PB, 1, none⟩ = some (.slice a2 l2.length c2) ∧ w9.drew.cell? ⟨PC, 0, none⟩ = some (.int .i64 b3) ∧ w9.drew.cell? ⟨PC, 1, none⟩ = some (.slice a3 l3.length c3) ∧ w9.drew.cell? ⟨PJ, 0, none⟩ = some (.int .i64 bj) ∧ w9.drew.cell? ⟨PJ, 1, none⟩ = some (.slice aj lj.length cj) := ⟨LA9d.two.1, LA9d.two.2, LB9d.two.1, LB9d.two.2, LC9d.two.1, LC9d.two.2, LJ9d.two.1, LJ9d.two.2⟩
        refine AnyL.region (fun w' => w'.cell? ⟨PA, 0, none⟩ = some (.int .i64 b1) ∧ w'.cell? ⟨PA, 1, none⟩ = some (.slice a1 l1.length c1) ∧ w'.cell? ⟨PB, 0, none⟩ = some (.int .i64 b2) ∧ w'.cell? ⟨PB, 1, none⟩ = some (.slice a2 l2.length c2) ∧ w'.cell? ⟨PC, 0, none⟩ = some (.int .i64 b3) ∧ w'.cell? ⟨PC, 1, none⟩ = some (.slice a3 l3.length c3) ∧ w'.cell? ⟨PJ, 0, none⟩ = some (.int .i64 bj) ∧ w'.cell? ⟨PJ, 1, none⟩ = some (.slice aj lj.length cj)) 999 (by kernel_rfl) ?_
        refine AnyL.takeD (i := 0) (d := 67) (.bool false) rfl rfl (by kernel_rfl) (by kernel_rfl) (by kernel_rfl) (by kernel_rfl) (fun _ _ _ h => h) S9d (Or.inl ⟨by rfl, fun w' h => (by dsimp only at h; go_simp)⟩) ?_
        simp only [Act.put, List.setIfInBounds_toArray, List.set_cons_zero, List.set_cons_succ]
        refine AnyL.takeD (i := 1) (d := 68) (.bool false) rfl rfl (by kernel_rfl) (by kernel_rfl) (by kernel_rfl) (by kernel_rfl) (fun _ _ _ h => h) S9d (Or.inl ⟨by rfl, fun w' h => (by dsimp only at h; go_simp)⟩) ?_
        simp only [Act.put, List.setIfInBounds_toArray, List.set_cons_zero, List.set_cons_succ]
        refine AnyL.skip (i := 2) (d := 69) rfl rfl (by kernel_rfl) (by kernel_rfl) (by kernel_rfl) (by kernel_rfl) (fun _ _ _ h => h) S9d (by rfl) ?_
        simp only [Act.put, List.setIfInBounds_toArray, List.set_cons_zero, List.set_cons_succ]
        refine AnyL.skip (i := 3) (d := 70) rfl rfl (by kernel_rfl) (by kernel_rfl) (by kernel_rfl) (by kernel_rfl) (fun _ _ _ h => h) S9d (by rfl) ?_
        simp only [Act.put, List.setIfInBounds_toArray, List.set_cons_zero, List.set_cons_succ]
        refine AnyL.skip (i := 4) (d := 71) rfl rfl (by kernel_rfl) (by kernel_rfl) (by kernel_rfl) (by kernel_rfl) (fun _ _ _ h => h) S9d (by rfl) ?_
        simp only [Act.put, List.setIfInBounds_toArray, List.set_cons_zero, List.set_cons_succ]
        refine AnyL.skip (i := 5) (d := 72) rfl rfl (by kernel_rfl) (by kernel_rfl) (by kernel_rfl) (by kernel_rfl) (fun _ _ _ h => h) S9d (by rfl) ?_
        simp only [Act.put, List.setIfInBounds_toArray, List.set_cons_zero, List.set_cons_succ]
        refine AnyL.skip (i := 6) (d := 73) rfl rfl (by kernel_rfl) (by kernel_rfl) (by kernel_rfl) (by kernel_rfl) (fun _ _ _ h => h) S9d (by rfl) ?_
        simp only [Act.put, List.setIfInBounds_toArray, List.set_cons_zero, List.set_cons_succ]
        refine AnyL.skip (i := 7) (d := 74) rfl rfl (by kernel_rfl) (by kernel_rfl) (by kernel_rfl) (by kernel_rfl) (fun _ _ _ h => h) S9d (by rfl) ?_
        simp only [Act.put, List.setIfInBounds_toArray, List.set_cons_zero, List.set_cons_succ]
        refine AnyL.skip (i := 8) (d := 75) rfl rfl (by kernel_rfl) (by kernel_rfl) (by kernel_rfl) (by kernel_rfl) (fun _ _ _ h => h) S9d (by rfl) ?_
        simp only [Act.put, List.setIfInBounds_toArray, List.set_cons_zero, List.set_cons_succ]
        refine AnyL.skip (i := 9) (d := 76) rfl rfl (by kernel_rfl) (by kernel_rfl) (by kernel_rfl) (by kernel_rfl) (fun _ _ _ h => h) S9d (by rfl) ?_
        simp only [Act.put, List.setIfInBounds_toArray, List.set_cons_zero, List.set_cons_succ]
        refine AnyL.skip (i := 10) (d := 77) rfl rfl (by kernel_rfl) (by kernel_rfl) (by kernel_rfl) (by kernel_rfl) (fun _ _ _ h => h) S9d (by rfl) ?_
        simp only [Act.put, List.setIfInBounds_toArray, List.set_cons_zero, List.set_cons_succ]
        refine AnyL.skip (i := 11) (d := 78) rfl rfl (by kernel_rfl) (by kernel_rfl) (by kernel_rfl) (by kernel_rfl) (fun _ _ _ h => h) S9d (by rfl) ?_
        simp only [Act.put, List.setIfInBounds_toArray, List.set_cons_zero, List.set_cons_succ]
        refine AnyL.skip (i := 12) (d := 79) rfl rfl (by kernel_rfl) (by kernel_rfl) (by kernel_rfl) (by kernel_rfl) (fun _ _ _ h => h) S9d (by rfl) ?_
        simp only [Act.put, List.setIfInBounds_toArray, List.set_cons_zero, List.set_cons_succ]
        refine AnyL.skip (i := 13) (d := 80) rfl rfl (by kernel_rfl) (by kernel_rfl) (by kernel_rfl) (by kernel_rfl) (fun _ _ _ h => h) S9d (by rfl) ?_
        simp only [Act.put, List.setIfInBounds_toArray, List.set_cons_zero, List.set_cons_succ]
        refine AnyL.skip (i := 14) (d := 81) rfl rfl (by kernel_rfl) (by kernel_rfl) (by kernel_rfl) (by kernel_rfl) (fun _ _ _ h => h) S9d (by rfl) ?_
        simp only [Act.put, List.setIfInBounds_toArray, List.set_cons_zero, List.set_cons_succ]
        refine AnyL.skip (i := 15) (d := 82) rfl rfl (by kernel_rfl) (by kernel_rfl) (by kernel_rfl) (by kernel_rfl) (fun _ _ _ h => h) S9d (by rfl) ?_
        simp only [Act.put, List.setIfInBounds_toArray, List.set_cons_zero, List.set_cons_succ]
        refine AnyL.skip (i := 16) (d := 83) rfl rfl (by kernel_rfl) (by kernel_rfl) (by kernel_rfl) (by kernel_rfl) (fun _ _ _ h => h) S9d (by rfl) ?_
        simp only [Act.put, List.setIfInBounds_toArray, List.set_cons_zero, List.set_cons_succ]
        refine AnyL.skip (i := 17) (d := 84) rfl rfl (by kernel_rfl) (by kernel_rfl) (by kernel_rfl) (by kernel_rfl) (fun _ _ _ h => h) S9d (by rfl) ?_
        simp only [Act.put, List.setIfInBounds_toArray, List.set_cons_zero, List.set_cons_succ]
        refine AnyL.skip (i := 18) (d := 85) rfl rfl (by kernel_rfl) (by kernel_rfl) (by kernel_rfl) (by kernel_rfl) (fun _ _ _ h => h) S9d (by rfl) ?_
        simp only [Act.put, List.setIfInBounds_toArray, List.set_cons_zero, List.set_cons_succ]
        refine AnyL.skip (i := 19) (d := 86) rfl rfl (by kernel_rfl) (by kernel_rfl) (by kernel_rfl) (by kernel_rfl) (fun _ _ _ h => h) S9d (by rfl) ?_
        simp only [Act.put, List.setIfInBounds_toArray, List.set_cons_zero, List.set_cons_succ]
        refine AnyL.skip (i := 20) (d := 87) rfl rfl (by kernel_rfl) (by kernel_rfl) (by kernel_rfl) (by kernel_rfl) (fun _ _ _ h => h) S9d (by rfl) ?_
        simp only [Act.put, List.setIfInBounds_toArray, List.set_cons_zero, List.set_cons_succ]
        refine AnyL.skip (i := 21) (d := 88) rfl rfl (by kernel_rfl) (by kernel_rfl) (by kernel_rfl) (by kernel_rfl) (fun _ _ _ h => h) S9d (by rfl) ?_
        simp only [Act.put, List.setIfInBounds_toArray, List.set_cons_zero, List.set_cons_succ]
        refine AnyL.skip (i := 22) (d := 89) rfl rfl (by kernel_rfl) (by kernel_rfl) (by kernel_rfl) (by kernel_rfl) (fun _ _ _ h => h) S9d (by rfl) ?_
        simp only [Act.put, List.setIfInBounds_toArray, List.set_cons_zero, List.set_cons_succ]
        refine AnyL.skip (i := 23) (d := 90) rfl rfl (by kernel_rfl) (by kernel_rfl) (by kernel_rfl) (by kernel_rfl) (fun _ _ _ h => h) S9d (by rfl) ?_
        simp only [Act.put, List.setIfInBounds_toArray, List.set_cons_zero, List.set_cons_succ]
        refine AnyL.skip (i := 24) (d := 91) rfl rfl (by kernel_rfl) (by kernel_rfl) (by kernel_rfl) (by kernel_rfl) (fun _ _ _ h => h) S9d (by rfl) ?_
        simp only [Act.put, List.setIfInBounds_toArray, List.set_cons_zero, List.set_cons_succ]
        refine AnyL.skip (i := 25) (d := 92) rfl rfl (by kernel_rfl) (by kernel_rfl) (by kernel_rfl) (by kernel_rfl) (fun _ _ _ h => h) S9d (by rfl) ?_
        simp only [Act.put, List.setIfInBounds_toArray, List.set_cons_zero, List.set_cons_succ]
        refine AnyL.takeD (i := 26) (d := 93) (.bool false) rfl rfl (by kernel_rfl) (by kernel_rfl) (by kernel_rfl) (by kernel_rfl) (fun _ _ _ h => h) S9d (Or.inl ⟨by rfl, fun w' h => (by dsimp only at h; go_simp)⟩) ?_
        simp only [Act.put, List.setIfInBounds_toArray, List.set_cons_zero, List.set_cons_succ]
        refine AnyL.done (by kernel_rfl) ?_
        go_wp2_with fail
        go_meet
        case rel => exact ⟨rfl, LA9d, LB9d, LC9d, LJ9d, LM9d, E9d⟩
      | true =>
        obtain ⟨e1, e2, e3⟩ := FJ.out (by simp)
        subst e1
        subst e2
        subst e3
        cases qac with
        | false =>
          go_wp2_with fail
          have LA9d := LA9.below (Below.refl _ w9).drew
          have LB9d := LB9.below (Below.refl _ w9).drew
          have LC9d := LC9.below (Below.refl _ w9).drew
          have LJ9d := LJ9.below (Below.refl _ w9).drew
          have LM9d := LM9.below (Below.refl _ w9).drew
          have E9d := E9.drew
          have S9d : w9.drew.cell? ⟨PA, 0, none⟩ = some (.int .i64 b1) ∧ w9.drew.cell? ⟨PA, 1, none⟩ = some (.slice a1 l1.length c1) ∧ w9.drew.cell? ⟨PB, 0, none⟩ = some (.int .i64 b2) ∧ w9.drew.cell? ⟨PB, 1, none⟩ = some (.slice a2 l2.length c2) ∧ w9.drew.cell? ⟨PC, 0, none⟩ = some (.int .i64 b3) ∧ w9.drew.cell? ⟨PC, 1, none⟩ = some (.slice a3 l3.length c3) ∧ w9.drew.cell? ⟨PJ, 0, none⟩ = some (.int .i64 bj) ∧ w9.drew.cell? ⟨PJ, 1, none⟩ = some (.slice aj lj.length cj) := ⟨LA9d.two.1, LA9d.two.2, LB9d.two.1, LB9d.two.2, LC9d.two.1, LC9d.two.2, LJ9d.two.1, LJ9d.two.2⟩
          refine AnyL.region (fun w' => w'.cell? ⟨PA, 0, none⟩ = some (.int .i64 b1) ∧ w'.cell? ⟨PA, 1, none⟩ = some (.slice a1 l1.length c1) ∧ w'.cell? ⟨PB, 0, none⟩ = some (.int .i64 b2) ∧ w'.cell? ⟨PB, 1, none⟩ = some (.slice a2 l2.length c2) ∧ w'.cell? ⟨PC, 0, none⟩ = some (.int .i64 b3) ∧ w'.cell? ⟨PC, 1, none⟩ = some (.slice a3 l3.length c3) ∧ w'.cell? ⟨PJ, 0, none⟩ = some (.int .i64 bj) ∧ w'.cell? ⟨PJ, 1, none⟩ = some (.slice aj lj.length cj)) 999 (by kernel_rfl) ?_
          refine AnyL.takeD (i := 0) (d := 67) (.bool true) rfl rfl (by kernel_rfl) (by kernel_rfl) (by kernel_rfl) (by kernel_rfl) (fun _ _ _ h => h) S9d (Or.inl ⟨by rfl, fun w' h => (by dsimp only at h; go_simp)⟩) ?_
          simp only [Act.put, List.setIfInBounds_toArray, List.set_cons_zero, List.set_cons_succ]
          refine AnyL.takeD (i := 1) (d := 68) (.bool true) rfl rfl (by kernel_rfl) (by kernel_rfl) (by kernel_rfl) (by kernel_rfl) (fun _ _ _ h => h) S9d (Or.inl ⟨by rfl, fun w' h => (by dsimp only at h; go_simp)⟩) ?_
          simp only [Act.put, List.setIfInBounds_toArray, List.set_cons_zero, List.set_cons_succ]
          refine AnyL.takeD (i := 2) (d := 69) (.agg #[.int .i64 b1, .slice a1 l1.length c1]) rfl rfl (by kernel_rfl) (by kernel_rfl) (by kernel_rfl) (by kernel_rfl) (fun _ _ _ h => h) S9d (Or.inl ⟨by rfl, fun w' h => (by dsimp only at h; go_simp)⟩) ?_
          simp only [Act.put, List.setIfInBounds_toArray, List.set_cons_zero, List.set_cons_succ]
          refine AnyL.takeD (i := 3) (d := 70) (.agg #[.int .i64 bj, .slice aj lj.length cj]) rfl rfl (by kernel_rfl) (by kernel_rfl) (by kernel_rfl) (by kernel_rfl) (fun _ _ _ h => h) S9d (Or.inl ⟨by rfl, fun w' h => (by dsimp only at h; go_simp)⟩) ?_
          simp only [Act.put, List.setIfInBounds_toArray, List.set_cons_zero, List.set_cons_succ]
          refine AnyL.one (i := 4) rfl (by kernel_rfl) (fun K1 hK1 => ?_)
          go_simp
          refine (Iaj.out _ _ _ LA9d.cats LJ9d.cats).mono ?_
          rintro e v9a ⟨rfl, hb9a⟩
          have E9a : Below w1.heap.size w1 v9a := E9d.trans (hb9a.mono E9d.size)
          have LA9a := LA9d.below hb9a
          have LB9a := LB9d.below hb9a
          have LC9a := LC9d.below hb9a
          have LJ9a := LJ9d.below hb9a
          have LM9a := LM9d.below hb9a
          have S9a : v9a.cell? ⟨PA, 0, none⟩ = some (.int .i64 b1) ∧ v9a.cell? ⟨PA, 1, none⟩ = some (.slice a1 l1.length c1) ∧ v9a.cell? ⟨PB, 0, none⟩ = some (.int .i64 b2) ∧ v9a.cell? ⟨PB, 1, none⟩ = some (.slice a2 l2.length c2) ∧ v9a.cell? ⟨PC, 0, none⟩ = some (.int .i64 b3) ∧ v9a.cell? ⟨PC, 1, none⟩ = some (.slice a3 l3.length c3) ∧ v9a.cell? ⟨PJ, 0, none⟩ = some (.int .i64 bj) ∧ v9a.cell? ⟨PJ, 1, none⟩ = some (.slice aj lj.length cj) := ⟨LA9a.two.1, LA9a.two.2, LB9a.two.1, LB9a.two.2, LC9a.two.1, LC9a.two.2, LJ9a.two.1, LJ9a.two.2⟩
          refine hK1.out _ _ (fun _ => S9a) ?_
          clear hK1 K1 hb9a E9d S9d LA9d LB9d LC9d LJ9d LM9d
          refine AnyL.takeD (i := 5) (d := 72) (.bool false) rfl rfl (by kernel_rfl) (by kernel_rfl) (by kernel_rfl) (by kernel_rfl) (fun _ _ _ h => h) S9a (Or.inl ⟨by rfl, fun w' h => (by dsimp only at h; go_simp)⟩) ?_
          simp only [Act.put, List.setIfInBounds_toArray, List.set_cons_zero, List.set_cons_succ]
          refine AnyL.takeD (i := 6) (d := 73) (.bool false) rfl rfl (by kernel_rfl) (by kernel_rfl) (by kernel_rfl) (by kernel_rfl) (fun _ _ _ h => h) S9a (Or.inl ⟨by rfl, fun w' h => (by dsimp only at h; go_simp)⟩) ?_
          simp only [Act.put, List.setIfInBounds_toArray, List.set_cons_zero, List.set_cons_succ]
          refine AnyL.takeD (i := 7) (d := 74) (.agg #[.int .i64 b2, .slice a2 l2.length c2]) rfl rfl (by kernel_rfl) (by kernel_rfl) (by kernel_rfl) (by kernel_rfl) (fun _ _ _ h => h) S9a (Or.inl ⟨by rfl, fun w' h => (by dsimp only at h; go_simp)⟩) ?_
          simp only [Act.put, List.setIfInBounds_toArray, List.set_cons_zero, List.set_cons_succ]
          refine AnyL.takeD (i := 8) (d := 75) (.agg #[.int .i64 bj, .slice aj lj.length cj]) rfl rfl (by kernel_rfl) (by kernel_rfl) (by kernel_rfl) (by kernel_rfl) (fun _ _ _ h => h) S9a (Or.inl ⟨by rfl, fun w' h => (by dsimp only at h; go_simp)⟩) ?_
          simp only [Act.put, List.setIfInBounds_toArray, List.set_cons_zero, List.set_cons_succ]
          refine AnyL.one (i := 9) rfl (by kernel_rfl) (fun K1 hK1 => ?_)
          go_simp
          refine (Ibj.out _ _ _ LB9a.cats LJ9a.cats).mono ?_
          rintro e v9b ⟨rfl, hb9b⟩
          have E9b : Below w1.heap.size w1 v9b := E9a.trans (hb9b.mono E9a.size)
          have LA9b := LA9a.below hb9b
          have LB9b := LB9a.below hb9b
          have LC9b := LC9a.below hb9b
          have LJ9b := LJ9a.below hb9b
          have LM9b := LM9a.below hb9b
          have S9b : v9b.cell? ⟨PA, 0, none⟩ = some (.int .i64 b1) ∧ v9b.cell? ⟨PA, 1, none⟩ = some (.slice a1 l1.length c1) ∧ v9b.cell? ⟨PB, 0, none⟩ = some (.int .i64 b2) ∧ v9b.cell? ⟨PB, 1, none⟩ = some (.slice a2 l2.length c2) ∧ v9b.cell? ⟨PC, 0, none⟩ = some (.int .i64 b3) ∧ v9b.cell? ⟨PC, 1, none⟩ = some (.slice a3 l3.length c3) ∧ v9b.cell? ⟨PJ, 0, none⟩ = some (.int .i64 bj) ∧ v9b.cell? ⟨PJ, 1, none⟩ = some (.slice aj lj.length cj) := ⟨LA9b.two.1, LA9b.two.2, LB9b.two.1, LB9b.two.2, LC9b.two.1, LC9b.two.2, LJ9b.two.1, LJ9b.two.2⟩
          refine hK1.out _ _ (fun _ => S9b) ?_
          clear hK1 K1 hb9b E9a S9a LA9a LB9a LC9a LJ9a LM9a
          refine AnyL.takeD (i := 10) (d := 77) (.bool false) rfl rfl (by kernel_rfl) (by kernel_rfl) (by kernel_rfl) (by kernel_rfl) (fun _ _ _ h => h) S9b (Or.inl ⟨by rfl, fun w' h => (by dsimp only at h; go_simp)⟩) ?_
          simp only [Act.put, List.setIfInBounds_toArray, List.set_cons_zero, List.set_cons_succ]
          refine AnyL.takeD (i := 11) (d := 78) (.bool false) rfl rfl (by kernel_rfl) (by kernel_rfl) (by kernel_rfl) (by kernel_rfl) (fun _ _ _ h => h) S9b (Or.inl ⟨by rfl, fun w' h => (by dsimp only at h; go_simp)⟩) ?_
          simp only [Act.put, List.setIfInBounds_toArray, List.set_cons_zero, List.set_cons_succ]
          refine AnyL.takeD (i := 12) (d := 79) (.bool false) rfl rfl (by kernel_rfl) (by kernel_rfl) (by kernel_rfl) (by kernel_rfl) (fun _ _ _ h => h) S9b (Or.inl ⟨by rfl, fun w' h => (by dsimp only at h; go_simp)⟩) ?_
          simp only [Act.put, List.setIfInBounds_toArray, List.set_cons_zero, List.set_cons_succ]
          refine AnyL.takeD (i := 13) (d := 80) (.agg #[.int .i64 b1, .slice a1 l1.length c1]) rfl rfl (by kernel_rfl) (by kernel_rfl) (by kernel_rfl) (by kernel_rfl) (fun _ _ _ h => h) S9b (Or.inl ⟨by rfl, fun w' h => (by dsimp only at h; go_simp)⟩) ?_
          simp only [Act.put, List.setIfInBounds_toArray, List.set_cons_zero, List.set_cons_succ]
          refine AnyL.takeD (i := 14) (d := 81) (.agg #[.int .i64 b3, .slice a3 l3.length c3]) rfl rfl (by kernel_rfl) (by kernel_rfl) (by kernel_rfl) (by kernel_rfl) (fun _ _ _ h => h) S9b (Or.inl ⟨by rfl, fun w' h => (by dsimp only at h; go_simp)⟩) ?_
          simp only [Act.put, List.setIfInBounds_toArray, List.set_cons_zero, List.set_cons_succ]
          refine AnyL.takeD (i := 21) (d := 88) (.agg #[.int .i64 bj, .slice aj lj.length cj]) rfl rfl (by kernel_rfl) (by kernel_rfl) (by kernel_rfl) (by kernel_rfl) (fun _ _ _ h => h) S9b (Or.inl ⟨by rfl, fun w' h => (by dsimp only at h; go_simp)⟩) ?_
          simp only [Act.put, List.setIfInBounds_toArray, List.set_cons_zero, List.set_cons_succ]
          refine AnyL.takeD (i := 22) (d := 89) (.agg #[.int .i64 b3, .slice a3 l3.length c3]) rfl rfl (by kernel_rfl) (by kernel_rfl) (by kernel_rfl) (by kernel_rfl) (fun _ _ _ h => h) S9b (Or.inl ⟨by rfl, fun w' h => (by dsimp only at h; go_simp)⟩) ?_
          simp only [Act.put, List.setIfInBounds_toArray, List.set_cons_zero, List.set_cons_succ]
          refine AnyL.one (i := 15) rfl (by kernel_rfl) (fun K1 hK1 => ?_)
          go_simp
          refine (Iac.out  _ LA9b.cats LC9b.cats).mono ?_
          rintro e v9c ⟨rfl, hb9c⟩
          have E9c : Below w1.heap.size w1 v9c := E9b.trans (hb9c.mono E9b.size)
          have LA9c := LA9b.below hb9c
          have LB9c := LB9b.below hb9c
          have LC9c := LC9b.below hb9c
          have LJ9c := LJ9b.below hb9c
          have LM9c := LM9b.below hb9c
          have S9c : v9c.cell? ⟨PA, 0, none⟩ = some (.int .i64 b1) ∧ v9c.cell? ⟨PA, 1, none⟩ = some (.slice a1 l1.length c1) ∧ v9c.cell? ⟨PB, 0, none⟩ = some (.int .i64 b2) ∧ v9c.cell? ⟨PB, 1, none⟩ = some (.slice a2 l2.length c2) ∧ v9c.cell? ⟨PC, 0, none⟩ = some (.int .i64 b3) ∧ v9c.cell? ⟨PC, 1, none⟩ = some (.slice a3 l3.length c3) ∧ v9c.cell? ⟨PJ, 0, none⟩ = some (.int .i64 bj) ∧ v9c.cell? ⟨PJ, 1, none⟩ = some (.slice aj lj.length cj) := ⟨LA9c.two.1, LA9c.two.2, LB9c.two.1, LB9c.two.2, LC9c.two.1, LC9c.two.2, LJ9c.two.1, LJ9c.two.2⟩
          refine hK1.out _ _ (fun _ => S9c) ?_
          clear hK1 K1 hb9c E9b S9b LA9b LB9b LC9b LJ9b LM9b
          refine AnyL.takeD (i := 16) (d := 83) (.bool false) rfl rfl (by kernel_rfl) (by kernel_rfl) (by kernel_rfl) (by kernel_rfl) (fun _ _ _ h => h) S9c (Or.inl ⟨by rfl, fun w' h => (by dsimp only at h; go_simp)⟩) ?_
          simp only [Act.put, List.setIfInBounds_toArray, List.set_cons_zero, List.set_cons_succ]
          refine AnyL.skip (i := 17) (d := 84) rfl rfl (by kernel_rfl) (by kernel_rfl) (by kernel_rfl) (by kernel_rfl) (fun _ _ _ h => h) S9c (by rfl) ?_
          simp only [Act.put, List.setIfInBounds_toArray, List.set_cons_zero, List.set_cons_succ]
          refine AnyL.skip (i := 18) (d := 85) rfl rfl (by kernel_rfl) (by kernel_rfl) (by kernel_rfl) (by kernel_rfl) (fun _ _ _ h => h) S9c (by rfl) ?_
          simp only [Act.put, List.setIfInBounds_toArray, List.set_cons_zero, List.set_cons_succ]
          refine AnyL.skip (i := 19) (d := 86) rfl rfl (by kernel_rfl) (by kernel_rfl) (by kernel_rfl) (by kernel_rfl) (fun _ _ _ h => h) S9c (by rfl) ?_
          simp only [Act.put, List.setIfInBounds_toArray, List.set_cons_zero, List.set_cons_succ]
          refine AnyL.takeD (i := 20) (d := 87) (.bool false) rfl rfl (by kernel_rfl) (by kernel_rfl) (by kernel_rfl) (by kernel_rfl) (fun _ _ _ h => h) S9c (Or.inl ⟨by rfl, fun w' h => (by dsimp only at h; go_simp)⟩) ?_
          simp only [Act.put, List.setIfInBounds_toArray, List.set_cons_zero, List.set_cons_succ]
          refine AnyL.one (i := 23) rfl (by kernel_rfl) (fun K1 hK1 => ?_)
          go_simp
          refine (Ijc.out _ _ _ LJ9c.cats LC9c.cats).mono ?_
          rintro e v9d ⟨rfl, hb9d⟩
          have E9d : Below w1.heap.size w1 v9d := E9c.trans (hb9d.mono E9c.size)
          have LA9d := LA9c.below hb9d
          have LB9d := LB9c.below hb9d
          have LC9d := LC9c.below hb9d
          have LJ9d := LJ9c.below hb9d
          have LM9d := LM9c.below hb9d
          have S9d : v9d.cell? ⟨PA, 0, none⟩ = some (.int .i64 b1) ∧ v9d.cell? ⟨PA, 1, none⟩ = some (.slice a1 l1.length c1) ∧ v9d.cell? ⟨PB, 0, none⟩ = some (.int .i64 b2) ∧ v9d.cell? ⟨PB, 1, none⟩ = some (.slice a2 l2.length c2) ∧ v9d.cell? ⟨PC, 0, none⟩ = some (.int .i64 b3) ∧ v9d.cell? ⟨PC, 1, none⟩ = some (.slice a3 l3.length c3) ∧ v9d.cell? ⟨PJ, 0, none⟩ = some (.int .i64 bj) ∧ v9d.cell? ⟨PJ, 1, none⟩ = some (.slice aj lj.length cj) := ⟨LA9d.two.1, LA9d.two.2, LB9d.two.1, LB9d.two.2, LC9d.two.1, LC9d.two.2, LJ9d.two.1, LJ9d.two.2⟩
          refine hK1.out _ _ (fun _ => S9d) ?_
          clear hK1 K1 hb9d E9c S9c LA9c LB9c LC9c LJ9c LM9c
          refine AnyL.takeD (i := 24) (d := 91) (.bool false) rfl rfl (by kernel_rfl) (by kernel_rfl) (by kernel_rfl) (by kernel_rfl) (fun _ _ _ h => h) S9d (Or.inl ⟨by rfl, fun w' h => (by dsimp only at h; go_simp)⟩) ?_
          simp only [Act.put, List.setIfInBounds_toArray, List.set_cons_zero, List.set_cons_succ]
          refine AnyL.takeD (i := 25) (d := 92) (.bool false) rfl rfl (by kernel_rfl) (by kernel_rfl) (by kernel_rfl) (by kernel_rfl) (fun _ _ _ h => h) S9d (Or.inl ⟨by rfl, fun w' h => (by dsimp only at h; go_simp)⟩) ?_
          simp only [Act.put, List.setIfInBounds_toArray, List.set_cons_zero, List.set_cons_succ]
          refine AnyL.takeD (i := 26) (d := 93) (.bool false) rfl rfl (by kernel_rfl) (by kernel_rfl) (by kernel_rfl) (by kernel_rfl) (fun _ _ _ h => h) S9d (Or.inl ⟨by rfl, fun w' h => (by dsimp only at h; go_simp)⟩) ?_
          simp only [Act.put, List.setIfInBounds_toArray, List.set_cons_zero, List.set_cons_succ]
          refine AnyL.done (by kernel_rfl) ?_
          go_wp2_with fail
          go_meet
          case rel => exact ⟨rfl, LA9d, LB9d, LC9d, LJ9d, LM9d, E9d⟩
        | true =>
          cases qbc with
          | false =>
            go_wp2_with fail
            have LA9d := LA9.below (Below.refl _ w9).drew
            have LB9d := LB9.below (Below.refl _ w9).drew
            have LC9d := LC9.below (Below.refl _ w9).drew
            have LJ9d := LJ9.below (Below.refl _ w9).drew
            have LM9d := LM9.below (Below.refl _ w9).drew
            have E9d := E9.drew
            have S9d : w9.drew.cell? ⟨PA, 0, none⟩ = some (.int .i64 b1) ∧ w9.drew.cell? ⟨PA, 1, none⟩ = some (.slice a1 l1.length c1) ∧ w9.drew.cell? ⟨PB, 0, none⟩ = some (.int .i64 b2) ∧ w9.drew.cell? ⟨PB, 1, none⟩ = some (.slice a2 l2.length c2) ∧ w9.drew.cell? ⟨PC, 0, none⟩ = some (.int .i64 b3) ∧ w9.drew.cell? ⟨PC, 1, none⟩ = some (.slice a3 l3.length c3) ∧ w9.drew.cell? ⟨PJ, 0, none⟩ = some (.int .i64 bj) ∧ w9.drew.cell? ⟨PJ, 1, none⟩ = some (.slice aj lj.length cj) := ⟨LA9d.two.1, LA9d.two.2, LB9d.two.1, LB9d.two.2, LC9d.two.1, LC9d.two.2, LJ9d.two.1, LJ9d.two.2⟩
            refine AnyL.region (fun w' => w'.cell? ⟨PA, 0, none⟩ = some (.int .i64 b1) ∧ w'.cell? ⟨PA, 1, none⟩ = some (.slice a1 l1.length c1) ∧ w'.cell? ⟨PB, 0, none⟩ = some (.int .i64 b2) ∧ w'.cell? ⟨PB, 1, none⟩ = some (.slice a2 l2.length c2) ∧ w'.cell? ⟨PC, 0, none⟩ = some (.int .i64 b3) ∧ w'.cell? ⟨PC, 1, none⟩ = some (.slice a3 l3.length c3) ∧ w'.cell? ⟨PJ, 0, none⟩ = some (.int .i64 bj) ∧ w'.cell? ⟨PJ, 1, none⟩ = some (.slice aj lj.length cj)) 999 (by kernel_rfl) ?_
            refine AnyL.takeD (i := 0) (d := 67) (.bool true) rfl rfl (by kernel_rfl) (by kernel_rfl) (by kernel_rfl) (by kernel_rfl) (fun _ _ _ h => h) S9d (Or.inl ⟨by rfl, fun w' h => (by dsimp only at h; go_simp)⟩) ?_
            simp only [Act.put, List.setIfInBounds_toArray, List.set_cons_zero, List.set_cons_succ]
            refine AnyL.takeD (i := 1) (d := 68) (.bool true) rfl rfl (by kernel_rfl) (by kernel_rfl) (by kernel_rfl) (by kernel_rfl) (fun _ _ _ h => h) S9d (Or.inl ⟨by rfl, fun w' h => (by dsimp only at h; go_simp)⟩) ?_
            simp only [Act.put, List.setIfInBounds_toArray, List.set_cons_zero, List.set_cons_succ]
            refine AnyL.takeD (i := 2) (d := 69) (.agg #[.int .i64 b1, .slice a1 l1.length c1]) rfl rfl (by kernel_rfl) (by kernel_rfl) (by kernel_rfl) (by kernel_rfl) (fun _ _ _ h => h) S9d (Or.inl ⟨by rfl, fun w' h => (by dsimp only at h; go_simp)⟩) ?_
            simp only [Act.put, List.setIfInBounds_toArray, List.set_cons_zero, List.set_cons_succ]
            refine AnyL.takeD (i := 3) (d := 70) (.agg #[.int .i64 bj, .slice aj lj.length cj]) rfl rfl (by kernel_rfl) (by kernel_rfl) (by kernel_rfl) (by kernel_rfl) (fun _ _ _ h => h) S9d (Or.inl ⟨by rfl, fun w' h => (by dsimp only at h; go_simp)⟩) ?_
            simp only [Act.put, List.setIfInBounds_toArray, List.set_cons_zero, List.set_cons_succ]
            refine AnyL.one (i := 4) rfl (by kernel_rfl) (fun K1 hK1 => ?_)
            go_simp
            refine (Iaj.out _ _ _ LA9d.cats LJ9d.cats).mono ?_
            rintro e v9a ⟨rfl, hb9a⟩
            have E9a : Below w1.heap.size w1 v9a := E9d.trans (hb9a.mono E9d.size)
            have LA9a := LA9d.below hb9a
            have LB9a := LB9d.below hb9a
            have LC9a := LC9d.below hb9a
            have LJ9a := LJ9d.below hb9a
            have LM9a := LM9d.below hb9a
            have S9a : v9a.cell? ⟨PA, 0, none⟩ = some (.int .i64 b1) ∧ v9a.cell? ⟨PA, 1, none⟩ = some (.slice a1 l1.length c1) ∧ v9a.cell? ⟨PB, 0, none⟩ = some (.int .i64 b2) ∧ v9a.cell? ⟨PB, 1, none⟩ = some (.slice a2 l2.length c2) ∧ v9a.cell? ⟨PC, 0, none⟩ = some (.int .i64 b3) ∧ v9a.cell? ⟨PC, 1, none⟩ = some (.slice a3 l3.length c3) ∧ v9a.cell? ⟨PJ, 0, none⟩ = some (.int .i64 bj) ∧ v9a.cell? ⟨PJ, 1, none⟩ = some (.slice aj lj.length cj) := ⟨LA9a.two.1, LA9a.two.2, LB9a.two.1, LB9a.two.2, LC9a.two.1, LC9a.two.2, LJ9a.two.1, LJ9a.two.2⟩
            refine hK1.out _ _ (fun _ => S9a) ?_
            clear hK1 K1 hb9a E9d S9d LA9d LB9d LC9d LJ9d LM9d
            refine AnyL.takeD (i := 5) (d := 72) (.bool false) rfl rfl (by kernel_rfl) (by kernel_rfl) (by kernel_rfl) (by kernel_rfl) (fun _ _ _ h => h) S9a (Or.inl ⟨by rfl, fun w' h => (by dsimp only at h; go_simp)⟩) ?_
            simp only [Act.put, List.setIfInBounds_toArray, List.set_cons_zero, List.set_cons_succ]
            refine AnyL.takeD (i := 6) (d := 73) (.bool false) rfl rfl (by kernel_rfl) (by kernel_rfl) (by kernel_rfl) (by kernel_rfl) (fun _ _ _ h => h) S9a (Or.inl ⟨by rfl, fun w' h => (by dsimp only at h; go_simp)⟩) ?_
            simp only [Act.put, List.setIfInBounds_toArray, List.set_cons_zero, List.set_cons_succ]
            refine AnyL.takeD (i := 7) (d := 74) (.agg #[.int .i64 b2, .slice a2 l2.length c2]) rfl rfl (by kernel_rfl) (by kernel_rfl) (by kernel_rfl) (by kernel_rfl) (fun _ _ _ h => h) S9a (Or.inl ⟨by rfl, fun w' h => (by dsimp only at h; go_simp)⟩) ?_
            simp only [Act.put, List.setIfInBounds_toArray, List.set_cons_zero, List.set_cons_succ]
            refine AnyL.takeD (i := 8) (d := 75) (.agg #[.int .i64 bj, .slice aj lj.length cj]) rfl rfl (by kernel_rfl) (by kernel_rfl) (by kernel_rfl) (by kernel_rfl) (fun _ _ _ h => h) S9a (Or.inl ⟨by rfl, fun w' h => (by dsimp only at h; go_simp)⟩) ?_
            simp only [Act.put, List.setIfInBounds_toArray, List.set_cons_zero, List.set_cons_succ]
            refine AnyL.one (i := 9) rfl (by kernel_rfl) (fun K1 hK1 => ?_)
            go_simp
            refine (Ibj.out _ _ _ LB9a.cats LJ9a.cats).mono ?_
            rintro e v9b ⟨rfl, hb9b⟩
            have E9b : Below w1.heap.size w1 v9b := E9a.trans (hb9b.mono E9a.size)
            have LA9b := LA9a.below hb9b
            have LB9b := LB9a.below hb9b
            have LC9b := LC9a.below hb9b
            have LJ9b := LJ9a.below hb9b
            have LM9b := LM9a.below hb9b
            have S9b : v9b.cell? ⟨PA, 0, none⟩ = some (.int .i64 b1) ∧ v9b.cell? ⟨PA, 1, none⟩ = some (.slice a1 l1.length c1) ∧ v9b.cell? ⟨PB, 0, none⟩ = some (.int .i64 b2) ∧ v9b.cell? ⟨PB, 1, none⟩ = some (.slice a2 l2.length c2) ∧ v9b.cell? ⟨PC, 0, none⟩ = some (.int .i64 b3) ∧ v9b.cell? ⟨PC, 1, none⟩ = some (.slice a3 l3.length c3) ∧ v9b.cell? ⟨PJ, 0, none⟩ = some (.int .i64 bj) ∧ v9b.cell? ⟨PJ, 1, none⟩ = some (.slice aj lj.length cj) := ⟨LA9b.two.1, LA9b.two.2, LB9b.two.1, LB9b.two.2, LC9b.two.1, LC9b.two.2, LJ9b.two.1, LJ9b.two.2⟩
            refine hK1.out _ _ (fun _ => S9b) ?_
            clear hK1 K1 hb9b E9a S9a LA9a LB9a LC9a LJ9a LM9a
            refine AnyL.takeD (i := 10) (d := 77) (.bool false) rfl rfl (by kernel_rfl) (by kernel_rfl) (by kernel_rfl) (by kernel_rfl) (fun _ _ _ h => h) S9b (Or.inl ⟨by rfl, fun w' h => (by dsimp only at h; go_simp)⟩) ?_
            simp only [Act.put, List.setIfInBounds_toArray, List.set_cons_zero, List.set_cons_succ]
            refine AnyL.takeD (i := 11) (d := 78) (.bool false) rfl rfl (by kernel_rfl) (by kernel_rfl) (by kernel_rfl) (by kernel_rfl) (fun _ _ _ h => h) S9b (Or.inl ⟨by rfl, fun w' h => (by dsimp only at h; go_simp)⟩) ?_
            simp only [Act.put, List.setIfInBounds_toArray, List.set_cons_zero, List.set_cons_succ]
            refine AnyL.takeD (i := 12) (d := 79) (.bool false) rfl rfl (by kernel_rfl) (by kernel_rfl) (by kernel_rfl) (by kernel_rfl) (fun _ _ _ h => h) S9b (Or.inl ⟨by rfl, fun w' h => (by dsimp only at h; go_simp)⟩) ?_
            simp only [Act.put, List.setIfInBounds_toArray, List.set_cons_zero, List.set_cons_succ]
            refine AnyL.takeD (i := 13) (d := 80) (.agg #[.int .i64 b1, .slice a1 l1.length c1]) rfl rfl (by kernel_rfl) (by kernel_rfl) (by kernel_rfl) (by kernel_rfl) (fun _ _ _ h => h) S9b (Or.inl ⟨by rfl, fun w' h => (by dsimp only at h; go_simp)⟩) ?_
            simp only [Act.put, List.setIfInBounds_toArray, List.set_cons_zero, List.set_cons_succ]
            refine AnyL.takeD (i := 14) (d := 81) (.agg #[.int .i64 b3, .slice a3 l3.length c3]) rfl rfl (by kernel_rfl) (by kernel_rfl) (by kernel_rfl) (by kernel_rfl) (fun _ _ _ h => h) S9b (Or.inl ⟨by rfl, fun w' h => (by dsimp only at h; go_simp)⟩) ?_
            simp only [Act.put, List.setIfInBounds_toArray, List.set_cons_zero, List.set_cons_succ]
            refine AnyL.takeD (i := 21) (d := 88) (.agg #[.int .i64 bj, .slice aj lj.length cj]) rfl rfl (by kernel_rfl) (by kernel_rfl) (by kernel_rfl) (by kernel_rfl) (fun _ _ _ h => h) S9b (Or.inl ⟨by rfl, fun w' h => (by dsimp only at h; go_simp)⟩) ?_
            simp only [Act.put, List.setIfInBounds_toArray, List.set_cons_zero, List.set_cons_succ]
            refine AnyL.takeD (i := 22) (d := 89) (.agg #[.int .i64 b3, .slice a3 l3.length c3]) rfl rfl (by kernel_rfl) (by kernel_rfl) (by kernel_rfl) (by kernel_rfl) (fun _ _ _ h => h) S9b (Or.inl ⟨by rfl, fun w' h => (by dsimp only at h; go_simp)⟩) ?_
            simp only [Act.put, List.setIfInBounds_toArray, List.set_cons_zero, List.set_cons_succ]
            refine AnyL.one (i := 15) rfl (by kernel_rfl) (fun K1 hK1 => ?_)
            go_simp
            refine (Iac.out  _ LA9b.cats LC9b.cats).mono ?_
            rintro e v9c ⟨rfl, hb9c⟩
            have E9c : Below w1.heap.size w1 v9c := E9b.trans (hb9c.mono E9b.size)
            have LA9c := LA9b.below hb9c
            have LB9c := LB9b.below hb9c
            have LC9c := LC9b.below hb9c
            have LJ9c := LJ9b.below hb9c
            have LM9c := LM9b.below hb9c
            have S9c : v9c.cell? ⟨PA, 0, none⟩ = some (.int .i64 b1) ∧ v9c.cell? ⟨PA, 1, none⟩ = some (.slice a1 l1.length c1) ∧ v9c.cell? ⟨PB, 0, none⟩ = some (.int .i64 b2) ∧ v9c.cell? ⟨PB, 1, none⟩ = some (.slice a2 l2.length c2) ∧ v9c.cell? ⟨PC, 0, none⟩ = some (.int .i64 b3) ∧ v9c.cell? ⟨PC, 1, none⟩ = some (.slice a3 l3.length c3) ∧ v9c.cell? ⟨PJ, 0, none⟩ = some (.int .i64 bj) ∧ v9c.cell? ⟨PJ, 1, none⟩ = some (.slice aj lj.length cj) := ⟨LA9c.two.1, LA9c.two.2, LB9c.two.1, LB9c.two.2, LC9c.two.1, LC9c.two.2, LJ9c.two.1, LJ9c.two.2⟩
            refine hK1.out _ _ (fun _ => S9c) ?_
            clear hK1 K1 hb9c E9b S9b LA9b LB9b LC9b LJ9b LM9b
            refine AnyL.takeD (i := 16) (d := 83) (.bool true) rfl rfl (by kernel_rfl) (by kernel_rfl) (by kernel_rfl) (by kernel_rfl) (fun _ _ _ h => h) S9c (Or.inl ⟨by rfl, fun w' h => (by dsimp only at h; go_simp)⟩) ?_
            simp only [Act.put, List.setIfInBounds_toArray, List.set_cons_zero, List.set_cons_succ]
            refine AnyL.takeD (i := 17) (d := 84) (.agg #[.int .i64 b2, .slice a2 l2.length c2]) rfl rfl (by kernel_rfl) (by kernel_rfl) (by kernel_rfl) (by kernel_rfl) (fun _ _ _ h => h) S9c (Or.inl ⟨by rfl, fun w' h => (by dsimp only at h; go_simp)⟩) ?_
            simp only [Act.put, List.setIfInBounds_toArray, List.set_cons_zero, List.set_cons_succ]
            refine AnyL.takeD (i := 18) (d := 85) (.agg #[.int .i64 b3, .slice a3 l3.length c3]) rfl rfl (by kernel_rfl) (by kernel_rfl) (by kernel_rfl) (by kernel_rfl) (fun _ _ _ h => h) S9c (Or.inl ⟨by rfl, fun w' h => (by dsimp only at h; go_simp)⟩) ?_
            simp only [Act.put, List.setIfInBounds_toArray, List.set_cons_zero, List.set_cons_succ]
            refine AnyL.one (i := 19) rfl (by kernel_rfl) (fun K1 hK1 => ?_)
            go_simp
            refine (Ibc.out  _ LB9c.cats LC9c.cats).mono ?_
            rintro e v9d ⟨rfl, hb9d⟩
            have E9d : Below w1.heap.size w1 v9d := E9c.trans (hb9d.mono E9c.size)
            have LA9d := LA9c.below hb9d
            have LB9d := LB9c.below hb9d
            have LC9d := LC9c.below hb9d
            have LJ9d := LJ9c.below hb9d
            have LM9d := LM9c.below hb9d
            have S9d : v9d.cell? ⟨PA, 0, none⟩ = some (.int .i64 b1) ∧ v9d.cell? ⟨PA, 1, none⟩ = some (.slice a1 l1.length c1) ∧ v9d.cell? ⟨PB, 0, none⟩ = some (.int .i64 b2) ∧ v9d.cell? ⟨PB, 1, none⟩ = some (.slice a2 l2.length c2) ∧ v9d.cell? ⟨PC, 0, none⟩ = some (.int .i64 b3) ∧ v9d.cell? ⟨PC, 1, none⟩ = some (.slice a3 l3.length c3) ∧ v9d.cell? ⟨PJ, 0, none⟩ = some (.int .i64 bj) ∧ v9d.cell? ⟨PJ, 1, none⟩ = some (.slice aj lj.length cj) := ⟨LA9d.two.1, LA9d.two.2, LB9d.two.1, LB9d.two.2, LC9d.two.1, LC9d.two.2, LJ9d.two.1, LJ9d.two.2⟩
            refine hK1.out _ _ (fun _ => S9d) ?_
            clear hK1 K1 hb9d E9c S9c LA9c LB9c LC9c LJ9c LM9c
            refine AnyL.takeD (i := 20) (d := 87) (.bool false) rfl rfl (by kernel_rfl) (by kernel_rfl) (by kernel_rfl) (by kernel_rfl) (fun _ _ _ h => h) S9d (Or.inl ⟨by rfl, fun w' h => (by dsimp only at h; go_simp)⟩) ?_
            simp only [Act.put, List.setIfInBounds_toArray, List.set_cons_zero, List.set_cons_succ]
            refine AnyL.one (i := 23) rfl (by kernel_rfl) (fun K1 hK1 => ?_)
            go_simp
            refine (Ijc.out _ _ _ LJ9d.cats LC9d.cats).mono ?_
            rintro e v9e ⟨rfl, hb9e⟩
            have E9e : Below w1.heap.size w1 v9e := E9d.trans (hb9e.mono E9d.size)
            have LA9e := LA9d.below hb9e
            have LB9e := LB9d.below hb9e
            have LC9e := LC9d.below hb9e
            have LJ9e := LJ9d.below hb9e
            have LM9e := LM9d.below hb9e
            have S9e : v9e.cell? ⟨PA, 0, none⟩ = some (.int .i64 b1) ∧ v9e.cell? ⟨PA, 1, none⟩ = some (.slice a1 l1.length c1) ∧ v9e.cell? ⟨PB, 0, none⟩ = some (.int .i64 b2) ∧ v9e.cell? ⟨PB, 1, none⟩ = some (.slice a2 l2.length c2) ∧ v9e.cell? ⟨PC, 0, none⟩ = some (.int .i64 b3) ∧ v9e.cell? ⟨PC, 1, none⟩ = some (.slice a3 l3.length c3) ∧ v9e.cell? ⟨PJ, 0, none⟩ = some (.int .i64 bj) ∧ v9e.cell? ⟨PJ, 1, none⟩ = some (.slice aj lj.length cj) := ⟨LA9e.two.1, LA9e.two.2, LB9e.two.1, LB9e.two.2, LC9e.two.1, LC9e.two.2, LJ9e.two.1, LJ9e.two.2⟩
            refine hK1.out _ _ (fun _ => S9e) ?_
            clear hK1 K1 hb9e E9d S9d LA9d LB9d LC9d LJ9d LM9d
            refine AnyL.takeD (i := 24) (d := 91) (.bool false) rfl rfl (by kernel_rfl) (by kernel_rfl) (by kernel_rfl) (by kernel_rfl) (fun _ _ _ h => h) S9e (Or.inl ⟨by rfl, fun w' h => (by dsimp only at h; go_simp)⟩) ?_
            simp only [Act.put, List.setIfInBounds_toArray, List.set_cons_zero, List.set_cons_succ]
            refine AnyL.takeD (i := 25) (d := 92) (.bool false) rfl rfl (by kernel_rfl) (by kernel_rfl) (by kernel_rfl) (by kernel_rfl) (fun _ _ _ h => h) S9e (Or.inl ⟨by rfl, fun w' h => (by dsimp only at h; go_simp)⟩) ?_
            simp only [Act.put, List.setIfInBounds_toArray, List.set_cons_zero, List.set_cons_succ]
            refine AnyL.takeD (i := 26) (d := 93) (.bool false) rfl rfl (by kernel_rfl) (by kernel_rfl) (by kernel_rfl) (by kernel_rfl) (fun _ _ _ h => h) S9e (Or.inl ⟨by rfl, fun w' h => (by dsimp only at h; go_simp)⟩) ?_
            simp only [Act.put, List.setIfInBounds_toArray, List.set_cons_zero, List.set_cons_succ]
            refine AnyL.done (by kernel_rfl) ?_
            go_wp2_with fail
            go_meet
            case rel => exact ⟨rfl, LA9e, LB9e, LC9e, LJ9e, LM9e, E9e⟩
          | true =>
            go_wp2_with fail
            have LA9d := LA9.below (Below.refl _ w9).drew
            have LB9d := LB9.below (Below.refl _ w9).drew
            have LC9d := LC9.below (Below.refl _ w9).drew
            have LJ9d := LJ9.below (Below.refl _ w9).drew
            have LM9d := LM9.below (Below.refl _ w9).drew
            have E9d := E9.drew
            have S9d : w9.drew.cell? ⟨PA, 0, none⟩ = some (.int .i64 b1) ∧ w9.drew.cell? ⟨PA, 1, none⟩ = some (.slice a1 l1.length c1) ∧ w9.drew.cell? ⟨PB, 0, none⟩ = some (.int .i64 b2) ∧ w9.drew.cell? ⟨PB, 1, none⟩ = some (.slice a2 l2.length c2) ∧ w9.drew.cell? ⟨PC, 0, none⟩ = some (.int .i64 b3) ∧ w9.drew.cell? ⟨PC, 1, none⟩ = some (.slice a3 l3.length c3) ∧ w9.drew.cell? ⟨PJ, 0, none⟩ = some (.int .i64 bj) ∧ w9.drew.cell? ⟨PJ, 1, none⟩ = some (.slice aj lj.length cj) := ⟨LA9d.two.1, LA9d.two.2, LB9d.two.1, LB9d.two.2, LC9d.two.1, LC9d.two.2, LJ9d.two.1, LJ9d.two.2⟩
            refine AnyL.region (fun w' => w'.cell? ⟨PA, 0, none⟩ = some (.int .i64 b1) ∧ w'.cell? ⟨PA, 1, none⟩ = some (.slice a1 l1.length c1) ∧ w'.cell? ⟨PB, 0, none⟩ = some (.int .i64 b2) ∧ w'.cell? ⟨PB, 1, none⟩ = some (.slice a2 l2.length c2) ∧ w'.cell? ⟨PC, 0, none⟩ = some (.int .i64 b3) ∧ w'.cell? ⟨PC, 1, none⟩ = some (.slice a3 l3.length c3) ∧ w'.cell? ⟨PJ, 0, none⟩ = some (.int .i64 bj) ∧ w'.cell? ⟨PJ, 1, none⟩ = some (.slice aj lj.length cj)) 999 (by kernel_rfl) ?_
            refine AnyL.takeD (i := 0) (d := 67) (.bool true) rfl rfl (by kernel_rfl) (by kernel_rfl) (by kernel_rfl) (by kernel_rfl) (fun _ _ _ h => h) S9d (Or.inl ⟨by rfl, fun w' h => (by dsimp only at h; go_simp)⟩) ?_
            simp only [Act.put, List.setIfInBounds_toArray, List.set_cons_zero, List.set_cons_succ]
            refine AnyL.takeD (i := 1) (d := 68) (.bool true) rfl rfl (by kernel_rfl) (by kernel_rfl) (by kernel_rfl) (by kernel_rfl) (fun _ _ _ h => h) S9d (Or.inl ⟨by rfl, fun w' h => (by dsimp only at h; go_simp)⟩) ?_
            simp only [Act.put, List.setIfInBounds_toArray, List.set_cons_zero, List.set_cons_succ]
            refine AnyL.takeD (i := 2) (d := 69) (.agg #[.int .i64 b1, .slice a1 l1.length c1]) rfl rfl (by kernel_rfl) (by kernel_rfl) (by kernel_rfl) (by kernel_rfl) (fun _ _ _ h => h) S9d (Or.inl ⟨by rfl, fun w' h => (by dsimp only at h; go_simp)⟩) ?_
            simp only [Act.put, List.setIfInBounds_toArray, List.set_cons_zero, List.set_cons_succ]
            refine AnyL.takeD (i := 3) (d := 70) (.agg #[.int .i64 bj, .slice aj lj.length cj]) rfl rfl (by kernel_rfl) (by kernel_rfl) (by kernel_rfl) (by kernel_rfl) (fun _ _ _ h => h) S9d (Or.inl ⟨by rfl, fun w' h => (by dsimp only at h; go_simp)⟩) ?_
            simp only [Act.put, List.setIfInBounds_toArray, List.set_cons_zero, List.set_cons_succ]
            refine AnyL.one (i := 4) rfl (by kernel_rfl) (fun K1 hK1 => ?_)
            go_simp
            refine (Iaj.out _ _ _ LA9d.cats LJ9d.cats).mono ?_
            rintro e v9a ⟨rfl, hb9a⟩
            have E9a : Below w1.heap.size w1 v9a := E9d.trans (hb9a.mono E9d.size)
            have LA9a := LA9d.below hb9a
            have LB9a := LB9d.below hb9a
            have LC9a := LC9d.below hb9a
            have LJ9a := LJ9d.below hb9a
            have LM9a := LM9d.below hb9a
            have S9a : v9a.cell? ⟨PA, 0, none⟩ = some (.int .i64 b1) ∧ v9a.cell? ⟨PA, 1, none⟩ = some (.slice a1 l1.length c1) ∧ v9a.cell? ⟨PB, 0, none⟩ = some (.int .i64 b2) ∧ v9a.cell? ⟨PB, 1, none⟩ = some (.slice a2 l2.length c2) ∧ v9a.cell? ⟨PC, 0, none⟩ = some (.int .i64 b3) ∧ v9a.cell? ⟨PC, 1, none⟩ = some (.slice a3 l3.length c3) ∧ v9a.cell? ⟨PJ, 0, none⟩ = some (.int .i64 bj) ∧ v9a.cell? ⟨PJ, 1, none⟩ = some (.slice aj lj.length cj) := ⟨LA9a.two.1, LA9a.two.2, LB9a.two.1, LB9a.two.2, LC9a.two.1, LC9a.two.2, LJ9a.two.1, LJ9a.two.2⟩
            refine hK1.out _ _ (fun _ => S9a) ?_
            clear hK1 K1 hb9a E9d S9d LA9d LB9d LC9d LJ9d LM9d
            refine AnyL.takeD (i := 5) (d := 72) (.bool false) rfl rfl (by kernel_rfl) (by kernel_rfl) (by kernel_rfl) (by kernel_rfl) (fun _ _ _ h => h) S9a (Or.inl ⟨by rfl, fun w' h => (by dsimp only at h; go_simp)⟩) ?_
            simp only [Act.put, List.setIfInBounds_toArray, List.set_cons_zero, List.set_cons_succ]
            refine AnyL.takeD (i := 6) (d := 73) (.bool false) rfl rfl (by kernel_rfl) (by kernel_rfl) (by kernel_rfl) (by kernel_rfl) (fun _ _ _ h => h) S9a (Or.inl ⟨by rfl, fun w' h => (by dsimp only at h; go_simp)⟩) ?_
            simp only [Act.put, List.setIfInBounds_toArray, List.set_cons_zero, List.set_cons_succ]
            refine AnyL.takeD (i := 7) (d := 74) (.agg #[.int .i64 b2, .slice a2 l2.length c2]) rfl rfl (by kernel_rfl) (by kernel_rfl) (by kernel_rfl) (by kernel_rfl) (fun _ _ _ h => h) S9a (Or.inl ⟨by rfl, fun w' h => (by dsimp only at h; go_simp)⟩) ?_
            simp only [Act.put, List.setIfInBounds_toArray, List.set_cons_zero, List.set_cons_succ]
            refine AnyL.takeD (i := 8) (d := 75) (.agg #[.int .i64 bj, .slice aj lj.length cj]) rfl rfl (by kernel_rfl) (by kernel_rfl) (by kernel_rfl) (by kernel_rfl) (fun _ _ _ h => h) S9a (Or.inl ⟨by rfl, fun w' h => (by dsimp only at h; go_simp)⟩) ?_
            simp only [Act.put, List.setIfInBounds_toArray, List.set_cons_zero, List.set_cons_succ]
            refine AnyL.one (i := 9) rfl (by kernel_rfl) (fun K1 hK1 => ?_)
            go_simp
            refine (Ibj.out _ _ _ LB9a.cats LJ9a.cats).mono ?_
            rintro e v9b ⟨rfl, hb9b⟩
            have E9b : Below w1.heap.size w1 v9b := E9a.trans (hb9b.mono E9a.size)
            have LA9b := LA9a.below hb9b
            have LB9b := LB9a.below hb9b
            have LC9b := LC9a.below hb9b
            have LJ9b := LJ9a.below hb9b
            have LM9b := LM9a.below hb9b
            have S9b : v9b.cell? ⟨PA, 0, none⟩ = some (.int .i64 b1) ∧ v9b.cell? ⟨PA, 1, none⟩ = some (.slice a1 l1.length c1) ∧ v9b.cell? ⟨PB, 0, none⟩ = some (.int .i64 b2) ∧ v9b.cell? ⟨PB, 1, none⟩ = some (.slice a2 l2.length c2) ∧ v9b.cell? ⟨PC, 0, none⟩ = some (.int .i64 b3) ∧ v9b.cell? ⟨PC, 1, none⟩ = some (.slice a3 l3.length c3) ∧ v9b.cell? ⟨PJ, 0, none⟩ = some (.int .i64 bj) ∧ v9b.cell? ⟨PJ, 1, none⟩ = some (.slice aj lj.length cj) := ⟨LA9b.two.1, LA9b.two.2, LB9b.two.1, LB9b.two.2, LC9b.two.1, LC9b.two.2, LJ9b.two.1, LJ9b.two.2⟩
            refine hK1.out _ _ (fun _ => S9b) ?_
            clear hK1 K1 hb9b E9a S9a LA9a LB9a LC9a LJ9a LM9a
            refine AnyL.takeD (i := 10) (d := 77) (.bool false) rfl rfl (by kernel_rfl) (by kernel_rfl) (by kernel_rfl) (by kernel_rfl) (fun _ _ _ h => h) S9b (Or.inl ⟨by rfl, fun w' h => (by dsimp only at h; go_simp)⟩) ?_
            simp only [Act.put, List.setIfInBounds_toArray, List.set_cons_zero, List.set_cons_succ]
            refine AnyL.takeD (i := 11) (d := 78) (.bool false) rfl rfl (by kernel_rfl) (by kernel_rfl) (by kernel_rfl) (by kernel_rfl) (fun _ _ _ h => h) S9b (Or.inl ⟨by rfl, fun w' h => (by dsimp only at h; go_simp)⟩) ?_
            simp only [Act.put, List.setIfInBounds_toArray, List.set_cons_zero, List.set_cons_succ]
            refine AnyL.takeD (i := 12) (d := 79) (.bool false) rfl rfl (by kernel_rfl) (by kernel_rfl) (by kernel_rfl) (by kernel_rfl) (fun _ _ _ h => h) S9b (Or.inl ⟨by rfl, fun w' h => (by dsimp only at h; go_simp)⟩) ?_
            simp only [Act.put, List.setIfInBounds_toArray, List.set_cons_zero, List.set_cons_succ]
            refine AnyL.takeD (i := 13) (d := 80) (.agg #[.int .i64 b1, .slice a1 l1.length c1]) rfl rfl (by kernel_rfl) (by kernel_rfl) (by kernel_rfl) (by kernel_rfl) (fun _ _ _ h => h) S9b (Or.inl ⟨by rfl, fun w' h => (by dsimp only at h; go_simp)⟩) ?_
            simp only [Act.put, List.setIfInBounds_toArray, List.set_cons_zero, List.set_cons_succ]
            refine AnyL.takeD (i := 14) (d := 81) (.agg #[.int .i64 b3, .slice a3 l3.length c3]) rfl rfl (by kernel_rfl) (by kernel_rfl) (by kernel_rfl) (by kernel_rfl) (fun _ _ _ h => h) S9b (Or.inl ⟨by rfl, fun w' h => (by dsimp only at h; go_simp)⟩) ?_
            simp only [Act.put, List.setIfInBounds_toArray, List.set_cons_zero, List.set_cons_succ]
            refine AnyL.takeD (i := 21) (d := 88) (.agg #[.int .i64 bj, .slice aj lj.length cj]) rfl rfl (by kernel_rfl) (by kernel_rfl) (by kernel_rfl) (by kernel_rfl) (fun _ _ _ h => h) S9b (Or.inl ⟨by rfl, fun w' h => (by dsimp only at h; go_simp)⟩) ?_
            simp only [Act.put, List.setIfInBounds_toArray, List.set_cons_zero, List.set_cons_succ]
            refine AnyL.takeD (i := 22) (d := 89) (.agg #[.int .i64 b3, .slice a3 l3.length c3]) rfl rfl (by kernel_rfl) (by kernel_rfl) (by kernel_rfl) (by kernel_rfl) (fun _ _ _ h => h) S9b (Or.inl ⟨by rfl, fun w' h => (by dsimp only at h; go_simp)⟩) ?_
            simp only [Act.put, List.setIfInBounds_toArray, List.set_cons_zero, List.set_cons_succ]
            refine AnyL.one (i := 15) rfl (by kernel_rfl) (fun K1 hK1 => ?_)
            go_simp
            refine (Iac.out  _ LA9b.cats LC9b.cats).mono ?_
            rintro e v9c ⟨rfl, hb9c⟩
            have E9c : Below w1.heap.size w1 v9c := E9b.trans (hb9c.mono E9b.size)
            have LA9c := LA9b.below hb9c
            have LB9c := LB9b.below hb9c
            have LC9c := LC9b.below hb9c
            have LJ9c := LJ9b.below hb9c
            have LM9c := LM9b.below hb9c
            have S9c : v9c.cell? ⟨PA, 0, none⟩ = some (.int .i64 b1) ∧ v9c.cell? ⟨PA, 1, none⟩ = some (.slice a1 l1.length c1) ∧ v9c.cell? ⟨PB, 0, none⟩ = some (.int .i64 b2) ∧ v9c.cell? ⟨PB, 1, none⟩ = some (.slice a2 l2.length c2) ∧ v9c.cell? ⟨PC, 0, none⟩ = some (.int .i64 b3) ∧ v9c.cell? ⟨PC, 1, none⟩ = some (.slice a3 l3.length c3) ∧ v9c.cell? ⟨PJ, 0, none⟩ = some (.int .i64 bj) ∧ v9c.cell? ⟨PJ, 1, none⟩ = some (.slice aj lj.length cj) := ⟨LA9c.two.1, LA9c.two.2, LB9c.two.1, LB9c.two.2, LC9c.two.1, LC9c.two.2, LJ9c.two.1, LJ9c.two.2⟩
            refine hK1.out _ _ (fun _ => S9c) ?_
            clear hK1 K1 hb9c E9b S9b LA9b LB9b LC9b LJ9b LM9b
            refine AnyL.takeD (i := 16) (d := 83) (.bool true) rfl rfl (by kernel_rfl) (by kernel_rfl) (by kernel_rfl) (by kernel_rfl) (fun _ _ _ h => h) S9c (Or.inl ⟨by rfl, fun w' h => (by dsimp only at h; go_simp)⟩) ?_
            simp only [Act.put, List.setIfInBounds_toArray, List.set_cons_zero, List.set_cons_succ]
            refine AnyL.takeD (i := 17) (d := 84) (.agg #[.int .i64 b2, .slice a2 l2.length c2]) rfl rfl (by kernel_rfl) (by kernel_rfl) (by kernel_rfl) (by kernel_rfl) (fun _ _ _ h => h) S9c (Or.inl ⟨by rfl, fun w' h => (by dsimp only at h; go_simp)⟩) ?_
            simp only [Act.put, List.setIfInBounds_toArray, List.set_cons_zero, List.set_cons_succ]
            refine AnyL.takeD (i := 18) (d := 85) (.agg #[.int .i64 b3, .slice a3 l3.length c3]) rfl rfl (by kernel_rfl) (by kernel_rfl) (by kernel_rfl) (by kernel_rfl) (fun _ _ _ h => h) S9c (Or.inl ⟨by rfl, fun w' h => (by dsimp only at h; go_simp)⟩) ?_
            simp only [Act.put, List.setIfInBounds_toArray, List.set_cons_zero, List.set_cons_succ]
            refine AnyL.one (i := 19) rfl (by kernel_rfl) (fun K1 hK1 => ?_)
            go_simp
            refine (Ibc.out  _ LB9c.cats LC9c.cats).mono ?_
            rintro e v9d ⟨rfl, hb9d⟩
            have E9d : Below w1.heap.size w1 v9d := E9c.trans (hb9d.mono E9c.size)
            have LA9d := LA9c.below hb9d
            have LB9d := LB9c.below hb9d
            have LC9d := LC9c.below hb9d
            have LJ9d := LJ9c.below hb9d
            have LM9d := LM9c.below hb9d
            have S9d : v9d.cell? ⟨PA, 0, none⟩ = some (.int .i64 b1) ∧ v9d.cell? ⟨PA, 1, none⟩ = some (.slice a1 l1.length c1) ∧ v9d.cell? ⟨PB, 0, none⟩ = some (.int .i64 b2) ∧ v9d.cell? ⟨PB, 1, none⟩ = some (.slice a2 l2.length c2) ∧ v9d.cell? ⟨PC, 0, none⟩ = some (.int .i64 b3) ∧ v9d.cell? ⟨PC, 1, none⟩ = some (.slice a3 l3.length c3) ∧ v9d.cell? ⟨PJ, 0, none⟩ = some (.int .i64 bj) ∧ v9d.cell? ⟨PJ, 1, none⟩ = some (.slice aj lj.length cj) := ⟨LA9d.two.1, LA9d.two.2, LB9d.two.1, LB9d.two.2, LC9d.two.1, LC9d.two.2, LJ9d.two.1, LJ9d.two.2⟩
            refine hK1.out _ _ (fun _ => S9d) ?_
            clear hK1 K1 hb9d E9c S9c LA9c LB9c LC9c LJ9c LM9c
            refine AnyL.takeD (i := 20) (d := 87) (.bool true) rfl rfl (by kernel_rfl) (by kernel_rfl) (by kernel_rfl) (by kernel_rfl) (fun _ _ _ h => h) S9d (Or.inl ⟨by rfl, fun w' h => (by dsimp only at h; go_simp)⟩) ?_
            simp only [Act.put, List.setIfInBounds_toArray, List.set_cons_zero, List.set_cons_succ]
            refine AnyL.one (i := 23) rfl (by kernel_rfl) (fun K1 hK1 => ?_)
            go_simp
            refine (Ijc.out _ _ _ LJ9d.cats LC9d.cats).mono ?_
            rintro e v9e ⟨rfl, hb9e⟩
            have E9e : Below w1.heap.size w1 v9e := E9d.trans (hb9e.mono E9d.size)
            have LA9e := LA9d.below hb9e
            have LB9e := LB9d.below hb9e
            have LC9e := LC9d.below hb9e
            have LJ9e := LJ9d.below hb9e
            have LM9e := LM9d.below hb9e
            have S9e : v9e.cell? ⟨PA, 0, none⟩ = some (.int .i64 b1) ∧ v9e.cell? ⟨PA, 1, none⟩ = some (.slice a1 l1.length c1) ∧ v9e.cell? ⟨PB, 0, none⟩ = some (.int .i64 b2) ∧ v9e.cell? ⟨PB, 1, none⟩ = some (.slice a2 l2.length c2) ∧ v9e.cell? ⟨PC, 0, none⟩ = some (.int .i64 b3) ∧ v9e.cell? ⟨PC, 1, none⟩ = some (.slice a3 l3.length c3) ∧ v9e.cell? ⟨PJ, 0, none⟩ = some (.int .i64 bj) ∧ v9e.cell? ⟨PJ, 1, none⟩ = some (.slice aj lj.length cj) := ⟨LA9e.two.1, LA9e.two.2, LB9e.two.1, LB9e.two.2, LC9e.two.1, LC9e.two.2, LJ9e.two.1, LJ9e.two.2⟩
            refine hK1.out _ _ (fun _ => S9e) ?_
            clear hK1 K1 hb9e E9d S9d LA9d LB9d LC9d LJ9d LM9d
            refine AnyL.takeD (i := 24) (d := 91) (.bool false) rfl rfl (by kernel_rfl) (by kernel_rfl) (by kernel_rfl) (by kernel_rfl) (fun _ _ _ h => h) S9e (Or.inl ⟨by rfl, fun w' h => (by dsimp only at h; go_simp)⟩) ?_
            simp only [Act.put, List.setIfInBounds_toArray, List.set_cons_zero, List.set_cons_succ]
            refine AnyL.takeD (i := 25) (d := 92) (.bool false) rfl rfl (by kernel_rfl) (by kernel_rfl) (by kernel_rfl) (by kernel_rfl) (fun _ _ _ h => h) S9e (Or.inl ⟨by rfl, fun w' h => (by dsimp only at h; go_simp)⟩) ?_
            simp only [Act.put, List.setIfInBounds_toArray, List.set_cons_zero, List.set_cons_succ]
            refine AnyL.takeD (i := 26) (d := 93) (.bool false) rfl rfl (by kernel_rfl) (by kernel_rfl) (by kernel_rfl) (by kernel_rfl) (fun _ _ _ h => h) S9e (Or.inl ⟨by rfl, fun w' h => (by dsimp only at h; go_simp)⟩) ?_
            simp only [Act.put, List.setIfInBounds_toArray, List.set_cons_zero, List.set_cons_succ]
            refine AnyL.done (by kernel_rfl) ?_
            go_wp2_with fail
            go_meet
            case rel => exact ⟨rfl, LA9e, LB9e, LC9e, LJ9e, LM9e, E9e⟩
    case rest =>
      obtain ⟨rfl, LA5, LB5, LC5, LJ5, LM5, E5⟩ := hcut
      clear FJ Iaj Ibj Iac Ibc Ijc E9 LA9 LB9 LC9 LJ9 LM9
      go_upto_region 13 with fail
      cases qm with
      | false =>
        go_wp2_with fail
        have LA5d := LA5.below (Below.refl _ wc).drew
        have LB5d := LB5.below (Below.refl _ wc).drew
        have LC5d := LC5.below (Below.refl _ wc).drew
        have LJ5d := LJ5.below (Below.refl _ wc).drew
        have LM5d := LM5.below (Below.refl _ wc).drew
        have E5d := E5.drew
        have S5d : wc.drew.cell? ⟨PA, 0, none⟩ = some (.int .i64 b1) ∧ wc.drew.cell? ⟨PA, 1, none⟩ = some (.slice a1 l1.length c1) ∧ wc.drew.cell? ⟨PB, 0, none⟩ = some (.int .i64 b2) ∧ wc.drew.cell? ⟨PB, 1, none⟩ = some (.slice a2 l2.length c2) ∧ wc.drew.cell? ⟨PC, 0, none⟩ = some (.int .i64 b3) ∧ wc.drew.cell? ⟨PC, 1, none⟩ = some (.slice a3 l3.length c3) ∧ wc.drew.cell? ⟨PM, 0, none⟩ = some (.int .i64 bm) ∧ wc.drew.cell? ⟨PM, 1, none⟩ = some (.slice am lm.length cm) := ⟨LA5d.two.1, LA5d.two.2, LB5d.two.1, LB5d.two.2, LC5d.two.1, LC5d.two.2, LM5d.two.1, LM5d.two.2⟩
        refine AnyL.region (fun w' => w'.cell? ⟨PA, 0, none⟩ = some (.int .i64 b1) ∧ w'.cell? ⟨PA, 1, none⟩ = some (.slice a1 l1.length c1) ∧ w'.cell? ⟨PB, 0, none⟩ = some (.int .i64 b2) ∧ w'.cell? ⟨PB, 1, none⟩ = some (.slice a2 l2.length c2) ∧ w'.cell? ⟨PC, 0, none⟩ = some (.int .i64 b3) ∧ w'.cell? ⟨PC, 1, none⟩ = some (.slice a3 l3.length c3) ∧ w'.cell? ⟨PM, 0, none⟩ = some (.int .i64 bm) ∧ w'.cell? ⟨PM, 1, none⟩ = some (.slice am lm.length cm)) 999 (by kernel_rfl) ?_
        refine AnyL.takeD (i := 0) (d := 94) (.bool false) rfl rfl (by kernel_rfl) (by kernel_rfl) (by kernel_rfl) (by kernel_rfl) (fun _ _ _ h => h) S5d (Or.inl ⟨by rfl, fun w' h => (by dsimp only at h; go_simp)⟩) ?_
        simp only [Act.put, List.setIfInBounds_toArray, List.set_cons_zero, List.set_cons_succ]
        refine AnyL.takeD (i := 1) (d := 95) (.bool true) rfl rfl (by kernel_rfl) (by kernel_rfl) (by kernel_rfl) (by kernel_rfl) (fun _ _ _ h => h) S5d (Or.inl ⟨by rfl, fun w' h => (by dsimp only at h; go_simp)⟩) ?_
        simp only [Act.put, List.setIfInBounds_toArray, List.set_cons_zero, List.set_cons_succ]
        refine AnyL.takeD (i := 2) (d := 96) (.bool true) rfl rfl (by kernel_rfl) (by kernel_rfl) (by kernel_rfl) (by kernel_rfl) (fun _ _ _ h => h) S5d (Or.inl ⟨by rfl, fun w' h => (by dsimp only at h; go_simp)⟩) ?_
        simp only [Act.put, List.setIfInBounds_toArray, List.set_cons_zero, List.set_cons_succ]
        refine AnyL.skip (i := 3) (d := 97) rfl rfl (by kernel_rfl) (by kernel_rfl) (by kernel_rfl) (by kernel_rfl) (fun _ _ _ h => h) S5d (by rfl) ?_
        simp only [Act.put, List.setIfInBounds_toArray, List.set_cons_zero, List.set_cons_succ]
        refine AnyL.skip (i := 4) (d := 98) rfl rfl (by kernel_rfl) (by kernel_rfl) (by kernel_rfl) (by kernel_rfl) (fun _ _ _ h => h) S5d (by rfl) ?_
        simp only [Act.put, List.setIfInBounds_toArray, List.set_cons_zero, List.set_cons_succ]
        refine AnyL.skip (i := 5) (d := 99) rfl rfl (by kernel_rfl) (by kernel_rfl) (by kernel_rfl) (by kernel_rfl) (fun _ _ _ h => h) S5d (by rfl) ?_
        simp only [Act.put, List.setIfInBounds_toArray, List.set_cons_zero, List.set_cons_succ]
        refine AnyL.skip (i := 6) (d := 100) rfl rfl (by kernel_rfl) (by kernel_rfl) (by kernel_rfl) (by kernel_rfl) (fun _ _ _ h => h) S5d (by rfl) ?_
        simp only [Act.put, List.setIfInBounds_toArray, List.set_cons_zero, List.set_cons_succ]
        refine AnyL.skip (i := 7) (d := 101) rfl rfl (by kernel_rfl) (by kernel_rfl) (by kernel_rfl) (by kernel_rfl) (fun _ _ _ h => h) S5d (by rfl) ?_
        simp only [Act.put, List.setIfInBounds_toArray, List.set_cons_zero, List.set_cons_succ]
        refine AnyL.skip (i := 8) (d := 102) rfl rfl (by kernel_rfl) (by kernel_rfl) (by kernel_rfl) (by kernel_rfl) (fun _ _ _ h => h) S5d (by rfl) ?_
        simp only [Act.put, List.setIfInBounds_toArray, List.set_cons_zero, List.set_cons_succ]
        refine AnyL.skip (i := 9) (d := 103) rfl rfl (by kernel_rfl) (by kernel_rfl) (by kernel_rfl) (by kernel_rfl) (fun _ _ _ h => h) S5d (by rfl) ?_
        simp only [Act.put, List.setIfInBounds_toArray, List.set_cons_zero, List.set_cons_succ]
        refine AnyL.skip (i := 10) (d := 104) rfl rfl (by kernel_rfl) (by kernel_rfl) (by kernel_rfl) (by kernel_rfl) (fun _ _ _ h => h) S5d (by rfl) ?_
        simp only [Act.put, List.setIfInBounds_toArray, List.set_cons_zero, List.set_cons_succ]
        refine AnyL.skip (i := 11) (d := 105) rfl rfl (by kernel_rfl) (by kernel_rfl) (by kernel_rfl) (by kernel_rfl) (fun _ _ _ h => h) S5d (by rfl) ?_
        simp only [Act.put, List.setIfInBounds_toArray, List.set_cons_zero, List.set_cons_succ]
        refine AnyL.skip (i := 12) (d := 106) rfl rfl (by kernel_rfl) (by kernel_rfl) (by kernel_rfl) (by kernel_rfl) (fun _ _ _ h => h) S5d (by rfl) ?_
        simp only [Act.put, List.setIfInBounds_toArray, List.set_cons_zero, List.set_cons_succ]
        refine AnyL.skip (i := 13) (d := 107) rfl rfl (by kernel_rfl) (by kernel_rfl) (by kernel_rfl) (by kernel_rfl) (fun _ _ _ h => h) S5d (by rfl) ?_
        simp only [Act.put, List.setIfInBounds_toArray, List.set_cons_zero, List.set_cons_succ]
        refine AnyL.skip (i := 14) (d := 108) rfl rfl (by kernel_rfl) (by kernel_rfl) (by kernel_rfl) (by kernel_rfl) (fun _ _ _ h => h) S5d (by rfl) ?_
        simp only [Act.put, List.setIfInBounds_toArray, List.set_cons_zero, List.set_cons_succ]
        refine AnyL.skip (i := 15) (d := 109) rfl rfl (by kernel_rfl) (by kernel_rfl) (by kernel_rfl) (by kernel_rfl) (fun _ _ _ h => h) S5d (by rfl) ?_
        simp only [Act.put, List.setIfInBounds_toArray, List.set_cons_zero, List.set_cons_succ]
        refine AnyL.skip (i := 16) (d := 110) rfl rfl (by kernel_rfl) (by kernel_rfl) (by kernel_rfl) (by kernel_rfl) (fun _ _ _ h => h) S5d (by rfl) ?_
        simp only [Act.put, List.setIfInBounds_toArray, List.set_cons_zero, List.set_cons_succ]
        refine AnyL.skip (i := 17) (d := 111) rfl rfl (by kernel_rfl) (by kernel_rfl) (by kernel_rfl) (by kernel_rfl) (fun _ _ _ h => h) S5d (by rfl) ?_
        simp only [Act.put, List.setIfInBounds_toArray, List.set_cons_zero, List.set_cons_succ]
        refine AnyL.skip (i := 18) (d := 112) rfl rfl (by kernel_rfl) (by kernel_rfl) (by kernel_rfl) (by kernel_rfl) (fun _ _ _ h => h) S5d (by rfl) ?_
        simp only [Act.put, List.setIfInBounds_toArray, List.set_cons_zero, List.set_cons_succ]
        refine AnyL.skip (i := 19) (d := 113) rfl rfl (by kernel_rfl) (by kernel_rfl) (by kernel_rfl) (by kernel_rfl) (fun _ _ _ h => h) S5d (by rfl) ?_
        simp only [Act.put, List.setIfInBounds_toArray, List.set_cons_zero, List.set_cons_succ]
        refine AnyL.skip (i := 20) (d := 114) rfl rfl (by kernel_rfl) (by kernel_rfl) (by kernel_rfl) (by kernel_rfl) (fun _ _ _ h => h) S5d (by rfl) ?_
        simp only [Act.put, List.setIfInBounds_toArray, List.set_cons_zero, List.set_cons_succ]
        refine AnyL.skip (i := 21) (d := 115) rfl rfl (by kernel_rfl) (by kernel_rfl) (by kernel_rfl) (by kernel_rfl) (fun _ _ _ h => h) S5d (by rfl) ?_
        simp only [Act.put, List.setIfInBounds_toArray, List.set_cons_zero, List.set_cons_succ]
        refine AnyL.skip (i := 22) (d := 116) rfl rfl (by kernel_rfl) (by kernel_rfl) (by kernel_rfl) (by kernel_rfl) (fun _ _ _ h => h) S5d (by rfl) ?_
        simp only [Act.put, List.setIfInBounds_toArray, List.set_cons_zero, List.set_cons_succ]
        refine AnyL.skip (i := 23) (d := 117) rfl rfl (by kernel_rfl) (by kernel_rfl) (by kernel_rfl) (by kernel_rfl) (fun _ _ _ h => h) S5d (by rfl) ?_
        simp only [Act.put, List.setIfInBounds_toArray, List.set_cons_zero, List.set_cons_succ]
        refine AnyL.skip (i := 24) (d := 118) rfl rfl (by kernel_rfl) (by kernel_rfl) (by kernel_rfl) (by kernel_rfl) (fun _ _ _ h => h) S5d (by rfl) ?_
        simp only [Act.put, List.setIfInBounds_toArray, List.set_cons_zero, List.set_cons_succ]
        refine AnyL.takeD (i := 25) (d := 119) (.bool true) rfl rfl (by kernel_rfl) (by kernel_rfl) (by kernel_rfl) (by kernel_rfl) (fun _ _ _ h => h) S5d (Or.inl ⟨by rfl, fun w' h => (by dsimp only at h; go_simp)⟩) ?_
        simp only [Act.put, List.setIfInBounds_toArray, List.set_cons_zero, List.set_cons_succ]
        refine AnyL.takeD (i := 26) (d := 2) (.bool true) rfl rfl (by kernel_rfl) (by kernel_rfl) (by kernel_rfl) (by kernel_rfl) (fun _ _ _ h => h) S5d (Or.inl ⟨by rfl, fun w' h => (by dsimp only at h; go_simp)⟩) ?_
        simp only [Act.put, List.setIfInBounds_toArray, List.set_cons_zero, List.set_cons_succ]
        refine AnyL.done (by kernel_rfl) ?_
        clear LA5d LB5d LC5d LJ5d LM5d S5d
        go_wp2
        go_ret
        exact ⟨rfl, E5d⟩
      | true =>
        obtain ⟨e1, e2, e3⟩ := FM.out (by simp)
        subst e1
        subst e2
        subst e3
        cases qca with
        | false =>
          go_wp2_with fail
          have LA5d := LA5.below (Below.refl _ wc).drew
          have LB5d := LB5.below (Below.refl _ wc).drew
          have LC5d := LC5.below (Below.refl _ wc).drew
          have LJ5d := LJ5.below (Below.refl _ wc).drew
          have LM5d := LM5.below (Below.refl _ wc).drew
          have E5d := E5.drew
          have S5d : wc.drew.cell? ⟨PA, 0, none⟩ = some (.int .i64 b1) ∧ wc.drew.cell? ⟨PA, 1, none⟩ = some (.slice a1 l1.length c1) ∧ wc.drew.cell? ⟨PB, 0, none⟩ = some (.int .i64 b2) ∧ wc.drew.cell? ⟨PB, 1, none⟩ = some (.slice a2 l2.length c2) ∧ wc.drew.cell? ⟨PC, 0, none⟩ = some (.int .i64 b3) ∧ wc.drew.cell? ⟨PC, 1, none⟩ = some (.slice a3 l3.length c3) ∧ wc.drew.cell? ⟨PM, 0, none⟩ = some (.int .i64 bm) ∧ wc.drew.cell? ⟨PM, 1, none⟩ = some (.slice am lm.length cm) := ⟨LA5d.two.1, LA5d.two.2, LB5d.two.1, LB5d.two.2, LC5d.two.1, LC5d.two.2, LM5d.two.1, LM5d.two.2⟩
          refine AnyL.region (fun w' => w'.cell? ⟨PA, 0, none⟩ = some (.int .i64 b1) ∧ w'.cell? ⟨PA, 1, none⟩ = some (.slice a1 l1.length c1) ∧ w'.cell? ⟨PB, 0, none⟩ = some (.int .i64 b2) ∧ w'.cell? ⟨PB, 1, none⟩ = some (.slice a2 l2.length c2) ∧ w'.cell? ⟨PC, 0, none⟩ = some (.int .i64 b3) ∧ w'.cell? ⟨PC, 1, none⟩ = some (.slice a3 l3.length c3) ∧ w'.cell? ⟨PM, 0, none⟩ = some (.int .i64 bm) ∧ w'.cell? ⟨PM, 1, none⟩ = some (.slice am lm.length cm)) 999 (by kernel_rfl) ?_
          refine AnyL.takeD (i := 0) (d := 94) (.bool true) rfl rfl (by kernel_rfl) (by kernel_rfl) (by kernel_rfl) (by kernel_rfl) (fun _ _ _ h => h) S5d (Or.inl ⟨by rfl, fun w' h => (by dsimp only at h; go_simp)⟩) ?_
          simp only [Act.put, List.setIfInBounds_toArray, List.set_cons_zero, List.set_cons_succ]
          refine AnyL.takeD (i := 1) (d := 95) (.bool false) rfl rfl (by kernel_rfl) (by kernel_rfl) (by kernel_rfl) (by kernel_rfl) (fun _ _ _ h => h) S5d (Or.inl ⟨by rfl, fun w' h => (by dsimp only at h; go_simp)⟩) ?_
          simp only [Act.put, List.setIfInBounds_toArray, List.set_cons_zero, List.set_cons_succ]
          refine AnyL.takeD (i := 2) (d := 96) (.bool false) rfl rfl (by kernel_rfl) (by kernel_rfl) (by kernel_rfl) (by kernel_rfl) (fun _ _ _ h => h) S5d (Or.inl ⟨by rfl, fun w' h => (by dsimp only at h; go_simp)⟩) ?_
          simp only [Act.put, List.setIfInBounds_toArray, List.set_cons_zero, List.set_cons_succ]
          refine AnyL.takeD (i := 3) (d := 97) (.agg #[.int .i64 bm, .slice am lm.length cm]) rfl rfl (by kernel_rfl) (by kernel_rfl) (by kernel_rfl) (by kernel_rfl) (fun _ _ _ h => h) S5d (Or.inl ⟨by rfl, fun w' h => (by dsimp only at h; go_simp)⟩) ?_
          simp only [Act.put, List.setIfInBounds_toArray, List.set_cons_zero, List.set_cons_succ]
          refine AnyL.takeD (i := 4) (d := 98) (.agg #[.int .i64 b1, .slice a1 l1.length c1]) rfl rfl (by kernel_rfl) (by kernel_rfl) (by kernel_rfl) (by kernel_rfl) (fun _ _ _ h => h) S5d (Or.inl ⟨by rfl, fun w' h => (by dsimp only at h; go_simp)⟩) ?_
          simp only [Act.put, List.setIfInBounds_toArray, List.set_cons_zero, List.set_cons_succ]
          refine AnyL.one (i := 5) rfl (by kernel_rfl) (fun K1 hK1 => ?_)
          go_simp
          refine (Ima.out _ _ _ LM5d.cats LA5d.cats).mono ?_
          rintro e v5a ⟨rfl, hb5a⟩
          have E5a : Below w1.heap.size w1 v5a := E5d.trans (hb5a.mono E5d.size)
          have LA5a := LA5d.below hb5a
          have LB5a := LB5d.below hb5a
          have LC5a := LC5d.below hb5a
          have LJ5a := LJ5d.below hb5a
          have LM5a := LM5d.below hb5a
          have S5a : v5a.cell? ⟨PA, 0, none⟩ = some (.int .i64 b1) ∧ v5a.cell? ⟨PA, 1, none⟩ = some (.slice a1 l1.length c1) ∧ v5a.cell? ⟨PB, 0, none⟩ = some (.int .i64 b2) ∧ v5a.cell? ⟨PB, 1, none⟩ = some (.slice a2 l2.length c2) ∧ v5a.cell? ⟨PC, 0, none⟩ = some (.int .i64 b3) ∧ v5a.cell? ⟨PC, 1, none⟩ = some (.slice a3 l3.length c3) ∧ v5a.cell? ⟨PM, 0, none⟩ = some (.int .i64 bm) ∧ v5a.cell? ⟨PM, 1, none⟩ = some (.slice am lm.length cm) := ⟨LA5a.two.1, LA5a.two.2, LB5a.two.1, LB5a.two.2, LC5a.two.1, LC5a.two.2, LM5a.two.1, LM5a.two.2⟩
          refine hK1.out _ _ (fun _ => S5a) ?_
          clear hK1 K1 hb5a E5d S5d LA5d LB5d LC5d LJ5d LM5d
          refine AnyL.takeD (i := 6) (d := 100) (.bool true) rfl rfl (by kernel_rfl) (by kernel_rfl) (by kernel_rfl) (by kernel_rfl) (fun _ _ _ h => h) S5a (Or.inl ⟨by rfl, fun w' h => (by dsimp only at h; go_simp)⟩) ?_
          simp only [Act.put, List.setIfInBounds_toArray, List.set_cons_zero, List.set_cons_succ]
          refine AnyL.takeD (i := 7) (d := 101) (.agg #[.int .i64 bm, .slice am lm.length cm]) rfl rfl (by kernel_rfl) (by kernel_rfl) (by kernel_rfl) (by kernel_rfl) (fun _ _ _ h => h) S5a (Or.inl ⟨by rfl, fun w' h => (by dsimp only at h; go_simp)⟩) ?_
          simp only [Act.put, List.setIfInBounds_toArray, List.set_cons_zero, List.set_cons_succ]
          refine AnyL.takeD (i := 8) (d := 102) (.agg #[.int .i64 b2, .slice a2 l2.length c2]) rfl rfl (by kernel_rfl) (by kernel_rfl) (by kernel_rfl) (by kernel_rfl) (fun _ _ _ h => h) S5a (Or.inl ⟨by rfl, fun w' h => (by dsimp only at h; go_simp)⟩) ?_
          simp only [Act.put, List.setIfInBounds_toArray, List.set_cons_zero, List.set_cons_succ]
          refine AnyL.one (i := 9) rfl (by kernel_rfl) (fun K1 hK1 => ?_)
          go_simp
          refine (Imb.out _ _ _ LM5a.cats LB5a.cats).mono ?_
          rintro e v5b ⟨rfl, hb5b⟩
          have E5b : Below w1.heap.size w1 v5b := E5a.trans (hb5b.mono E5a.size)
          have LA5b := LA5a.below hb5b
          have LB5b := LB5a.below hb5b
          have LC5b := LC5a.below hb5b
          have LJ5b := LJ5a.below hb5b
          have LM5b := LM5a.below hb5b
          have S5b : v5b.cell? ⟨PA, 0, none⟩ = some (.int .i64 b1) ∧ v5b.cell? ⟨PA, 1, none⟩ = some (.slice a1 l1.length c1) ∧ v5b.cell? ⟨PB, 0, none⟩ = some (.int .i64 b2) ∧ v5b.cell? ⟨PB, 1, none⟩ = some (.slice a2 l2.length c2) ∧ v5b.cell? ⟨PC, 0, none⟩ = some (.int .i64 b3) ∧ v5b.cell? ⟨PC, 1, none⟩ = some (.slice a3 l3.length c3) ∧ v5b.cell? ⟨PM, 0, none⟩ = some (.int .i64 bm) ∧ v5b.cell? ⟨PM, 1, none⟩ = some (.slice am lm.length cm) := ⟨LA5b.two.1, LA5b.two.2, LB5b.two.1, LB5b.two.2, LC5b.two.1, LC5b.two.2, LM5b.two.1, LM5b.two.2⟩
          refine hK1.out _ _ (fun _ => S5b) ?_
          clear hK1 K1 hb5b E5a S5a LA5a LB5a LC5a LJ5a LM5a
          refine AnyL.takeD (i := 10) (d := 104) (.bool true) rfl rfl (by kernel_rfl) (by kernel_rfl) (by kernel_rfl) (by kernel_rfl) (fun _ _ _ h => h) S5b (Or.inl ⟨by rfl, fun w' h => (by dsimp only at h; go_simp)⟩) ?_
          simp only [Act.put, List.setIfInBounds_toArray, List.set_cons_zero, List.set_cons_succ]
          refine AnyL.takeD (i := 11) (d := 105) (.bool true) rfl rfl (by kernel_rfl) (by kernel_rfl) (by kernel_rfl) (by kernel_rfl) (fun _ _ _ h => h) S5b (Or.inl ⟨by rfl, fun w' h => (by dsimp only at h; go_simp)⟩) ?_
          simp only [Act.put, List.setIfInBounds_toArray, List.set_cons_zero, List.set_cons_succ]
          refine AnyL.takeD (i := 12) (d := 106) (.agg #[.int .i64 b3, .slice a3 l3.length c3]) rfl rfl (by kernel_rfl) (by kernel_rfl) (by kernel_rfl) (by kernel_rfl) (fun _ _ _ h => h) S5b (Or.inl ⟨by rfl, fun w' h => (by dsimp only at h; go_simp)⟩) ?_
          simp only [Act.put, List.setIfInBounds_toArray, List.set_cons_zero, List.set_cons_succ]
          refine AnyL.takeD (i := 13) (d := 107) (.agg #[.int .i64 b1, .slice a1 l1.length c1]) rfl rfl (by kernel_rfl) (by kernel_rfl) (by kernel_rfl) (by kernel_rfl) (fun _ _ _ h => h) S5b (Or.inl ⟨by rfl, fun w' h => (by dsimp only at h; go_simp)⟩) ?_
          simp only [Act.put, List.setIfInBounds_toArray, List.set_cons_zero, List.set_cons_succ]
          refine AnyL.takeD (i := 20) (d := 114) (.agg #[.int .i64 b3, .slice a3 l3.length c3]) rfl rfl (by kernel_rfl) (by kernel_rfl) (by kernel_rfl) (by kernel_rfl) (fun _ _ _ h => h) S5b (Or.inl ⟨by rfl, fun w' h => (by dsimp only at h; go_simp)⟩) ?_
          simp only [Act.put, List.setIfInBounds_toArray, List.set_cons_zero, List.set_cons_succ]
          refine AnyL.takeD (i := 21) (d := 115) (.agg #[.int .i64 bm, .slice am lm.length cm]) rfl rfl (by kernel_rfl) (by kernel_rfl) (by kernel_rfl) (by kernel_rfl) (fun _ _ _ h => h) S5b (Or.inl ⟨by rfl, fun w' h => (by dsimp only at h; go_simp)⟩) ?_
          simp only [Act.put, List.setIfInBounds_toArray, List.set_cons_zero, List.set_cons_succ]
          refine AnyL.one (i := 14) rfl (by kernel_rfl) (fun K1 hK1 => ?_)
          go_simp
          refine (Ica.out  _ LC5b.cats LA5b.cats).mono ?_
          rintro e v5c ⟨rfl, hb5c⟩
          have E5c : Below w1.heap.size w1 v5c := E5b.trans (hb5c.mono E5b.size)
          have LA5c := LA5b.below hb5c
          have LB5c := LB5b.below hb5c
          have LC5c := LC5b.below hb5c
          have LJ5c := LJ5b.below hb5c
          have LM5c := LM5b.below hb5c
          have S5c : v5c.cell? ⟨PA, 0, none⟩ = some (.int .i64 b1) ∧ v5c.cell? ⟨PA, 1, none⟩ = some (.slice a1 l1.length c1) ∧ v5c.cell? ⟨PB, 0, none⟩ = some (.int .i64 b2) ∧ v5c.cell? ⟨PB, 1, none⟩ = some (.slice a2 l2.length c2) ∧ v5c.cell? ⟨PC, 0, none⟩ = some (.int .i64 b3) ∧ v5c.cell? ⟨PC, 1, none⟩ = some (.slice a3 l3.length c3) ∧ v5c.cell? ⟨PM, 0, none⟩ = some (.int .i64 bm) ∧ v5c.cell? ⟨PM, 1, none⟩ = some (.slice am lm.length cm) := ⟨LA5c.two.1, LA5c.two.2, LB5c.two.1, LB5c.two.2, LC5c.two.1, LC5c.two.2, LM5c.two.1, LM5c.two.2⟩
          refine hK1.out _ _ (fun _ => S5c) ?_
          clear hK1 K1 hb5c E5b S5b LA5b LB5b LC5b LJ5b LM5b
          refine AnyL.takeD (i := 15) (d := 109) (.bool false) rfl rfl (by kernel_rfl) (by kernel_rfl) (by kernel_rfl) (by kernel_rfl) (fun _ _ _ h => h) S5c (Or.inl ⟨by rfl, fun w' h => (by dsimp only at h; go_simp)⟩) ?_
          simp only [Act.put, List.setIfInBounds_toArray, List.set_cons_zero, List.set_cons_succ]
          refine AnyL.skip (i := 16) (d := 110) rfl rfl (by kernel_rfl) (by kernel_rfl) (by kernel_rfl) (by kernel_rfl) (fun _ _ _ h => h) S5c (by rfl) ?_
          simp only [Act.put, List.setIfInBounds_toArray, List.set_cons_zero, List.set_cons_succ]
          refine AnyL.skip (i := 17) (d := 111) rfl rfl (by kernel_rfl) (by kernel_rfl) (by kernel_rfl) (by kernel_rfl) (fun _ _ _ h => h) S5c (by rfl) ?_
          simp only [Act.put, List.setIfInBounds_toArray, List.set_cons_zero, List.set_cons_succ]
          refine AnyL.skip (i := 18) (d := 112) rfl rfl (by kernel_rfl) (by kernel_rfl) (by kernel_rfl) (by kernel_rfl) (fun _ _ _ h => h) S5c (by rfl) ?_
          simp only [Act.put, List.setIfInBounds_toArray, List.set_cons_zero, List.set_cons_succ]
          refine AnyL.takeD (i := 19) (d := 113) (.bool false) rfl rfl (by kernel_rfl) (by kernel_rfl) (by kernel_rfl) (by kernel_rfl) (fun _ _ _ h => h) S5c (Or.inl ⟨by rfl, fun w' h => (by dsimp only at h; go_simp)⟩) ?_
          simp only [Act.put, List.setIfInBounds_toArray, List.set_cons_zero, List.set_cons_succ]
          refine AnyL.one (i := 22) rfl (by kernel_rfl) (fun K1 hK1 => ?_)
          go_simp
          refine (Icm.out _ _ _ LC5c.cats LM5c.cats).mono ?_
          rintro e v5d ⟨rfl, hb5d⟩
          have E5d : Below w1.heap.size w1 v5d := E5c.trans (hb5d.mono E5c.size)
          have LA5d := LA5c.below hb5d
          have LB5d := LB5c.below hb5d
          have LC5d := LC5c.below hb5d
          have LJ5d := LJ5c.below hb5d
          have LM5d := LM5c.below hb5d
          have S5d : v5d.cell? ⟨PA, 0, none⟩ = some (.int .i64 b1) ∧ v5d.cell? ⟨PA, 1, none⟩ = some (.slice a1 l1.length c1) ∧ v5d.cell? ⟨PB, 0, none⟩ = some (.int .i64 b2) ∧ v5d.cell? ⟨PB, 1, none⟩ = some (.slice a2 l2.length c2) ∧ v5d.cell? ⟨PC, 0, none⟩ = some (.int .i64 b3) ∧ v5d.cell? ⟨PC, 1, none⟩ = some (.slice a3 l3.length c3) ∧ v5d.cell? ⟨PM, 0, none⟩ = some (.int .i64 bm) ∧ v5d.cell? ⟨PM, 1, none⟩ = some (.slice am lm.length cm) := ⟨LA5d.two.1, LA5d.two.2, LB5d.two.1, LB5d.two.2, LC5d.two.1, LC5d.two.2, LM5d.two.1, LM5d.two.2⟩
          refine hK1.out _ _ (fun _ => S5d) ?_
          clear hK1 K1 hb5d E5c S5c LA5c LB5c LC5c LJ5c LM5c
          refine AnyL.takeD (i := 23) (d := 117) (.bool true) rfl rfl (by kernel_rfl) (by kernel_rfl) (by kernel_rfl) (by kernel_rfl) (fun _ _ _ h => h) S5d (Or.inl ⟨by rfl, fun w' h => (by dsimp only at h; go_simp)⟩) ?_
          simp only [Act.put, List.setIfInBounds_toArray, List.set_cons_zero, List.set_cons_succ]
          refine AnyL.takeD (i := 24) (d := 118) (.bool true) rfl rfl (by kernel_rfl) (by kernel_rfl) (by kernel_rfl) (by kernel_rfl) (fun _ _ _ h => h) S5d (Or.inl ⟨by rfl, fun w' h => (by dsimp only at h; go_simp)⟩) ?_
          simp only [Act.put, List.setIfInBounds_toArray, List.set_cons_zero, List.set_cons_succ]
          refine AnyL.takeD (i := 25) (d := 119) (.bool true) rfl rfl (by kernel_rfl) (by kernel_rfl) (by kernel_rfl) (by kernel_rfl) (fun _ _ _ h => h) S5d (Or.inl ⟨by rfl, fun w' h => (by dsimp only at h; go_simp)⟩) ?_
          simp only [Act.put, List.setIfInBounds_toArray, List.set_cons_zero, List.set_cons_succ]
          refine AnyL.takeD (i := 26) (d := 2) (.bool true) rfl rfl (by kernel_rfl) (by kernel_rfl) (by kernel_rfl) (by kernel_rfl) (fun _ _ _ h => h) S5d (Or.inl ⟨by rfl, fun w' h => (by dsimp only at h; go_simp)⟩) ?_
          simp only [Act.put, List.setIfInBounds_toArray, List.set_cons_zero, List.set_cons_succ]
          refine AnyL.done (by kernel_rfl) ?_
          clear LA5d LB5d LC5d LJ5d LM5d S5d
          go_wp2
          go_ret
          exact ⟨rfl, E5d⟩
        | true =>
          cases qcb with
          | false =>
            go_wp2_with fail
            have LA5d := LA5.below (Below.refl _ wc).drew
            have LB5d := LB5.below (Below.refl _ wc).drew
            have LC5d := LC5.below (Below.refl _ wc).drew
            have LJ5d := LJ5.below (Below.refl _ wc).drew
            have LM5d := LM5.below (Below.refl _ wc).drew
            have E5d := E5.drew
            have S5d : wc.drew.cell? ⟨PA, 0, none⟩ = some (.int .i64 b1) ∧ wc.drew.cell? ⟨PA, 1, none⟩ = some (.slice a1 l1.length c1) ∧ wc.drew.cell? ⟨PB, 0, none⟩ = some (.int .i64 b2) ∧ wc.drew.cell? ⟨PB, 1, none⟩ = some (.slice a2 l2.length c2) ∧ wc.drew.cell? ⟨PC, 0, none⟩ = some (.int .i64 b3) ∧ wc.drew.cell? ⟨PC, 1, none⟩ = some (.slice a3 l3.length c3) ∧ wc.drew.cell? ⟨PM, 0, none⟩ = some (.int .i64 bm) ∧ wc.drew.cell? ⟨PM, 1, none⟩ = some (.slice am lm.length cm) := ⟨LA5d.two.1, LA5d.two.2, LB5d.two.1, LB5d.two.2, LC5d.two.1, LC5d.two.2, LM5d.two.1, LM5d.two.2⟩
            refine AnyL.region (fun w' => w'.cell? ⟨PA, 0, none⟩ = some (.int .i64 b1) ∧ w'.cell? ⟨PA, 1, none⟩ = some (.slice a1 l1.length c1) ∧ w'.cell? ⟨PB, 0, none⟩ = some (.int .i64 b2) ∧ w'.cell? ⟨PB, 1, none⟩ = some (.slice a2 l2.length c2) ∧ w'.cell? ⟨PC, 0, none⟩ = some (.int .i64 b3) ∧ w'.cell? ⟨PC, 1, none⟩ = some (.slice a3 l3.length c3) ∧ w'.cell? ⟨PM, 0, none⟩ = some (.int .i64 bm) ∧ w'.cell? ⟨PM, 1, none⟩ = some (.slice am lm.length cm)) 999 (by kernel_rfl) ?_
            refine AnyL.takeD (i := 0) (d := 94) (.bool true) rfl rfl (by kernel_rfl) (by kernel_rfl) (by kernel_rfl) (by kernel_rfl) (fun _ _ _ h => h) S5d (Or.inl ⟨by rfl, fun w' h => (by dsimp only at h; go_simp)⟩) ?_
            simp only [Act.put, List.setIfInBounds_toArray, List.set_cons_zero, List.set_cons_succ]
            refine AnyL.takeD (i := 1) (d := 95) (.bool false) rfl rfl (by kernel_rfl) (by kernel_rfl) (by kernel_rfl) (by kernel_rfl) (fun _ _ _ h => h) S5d (Or.inl ⟨by rfl, fun w' h => (by dsimp only at h; go_simp)⟩) ?_
            simp only [Act.put, List.setIfInBounds_toArray, List.set_cons_zero, List.set_cons_succ]
            refine AnyL.takeD (i := 2) (d := 96) (.bool false) rfl rfl (by kernel_rfl) (by kernel_rfl) (by kernel_rfl) (by kernel_rfl) (fun _ _ _ h => h) S5d (Or.inl ⟨by rfl, fun w' h => (by dsimp only at h; go_simp)⟩) ?_
            simp only [Act.put, List.setIfInBounds_toArray, List.set_cons_zero, List.set_cons_succ]
            refine AnyL.takeD (i := 3) (d := 97) (.agg #[.int .i64 bm, .slice am lm.length cm]) rfl rfl (by kernel_rfl) (by kernel_rfl) (by kernel_rfl) (by kernel_rfl) (fun _ _ _ h => h) S5d (Or.inl ⟨by rfl, fun w' h => (by dsimp only at h; go_simp)⟩) ?_
            simp only [Act.put, List.setIfInBounds_toArray, List.set_cons_zero, List.set_cons_succ]
            refine AnyL.takeD (i := 4) (d := 98) (.agg #[.int .i64 b1, .slice a1 l1.length c1]) rfl rfl (by kernel_rfl) (by kernel_rfl) (by kernel_rfl) (by kernel_rfl) (fun _ _ _ h => h) S5d (Or.inl ⟨by rfl, fun w' h => (by dsimp only at h; go_simp)⟩) ?_
            simp only [Act.put, List.setIfInBounds_toArray, List.set_cons_zero, List.set_cons_succ]
            refine AnyL.one (i := 5) rfl (by kernel_rfl) (fun K1 hK1 => ?_)
            go_simp
            refine (Ima.out _ _ _ LM5d.cats LA5d.cats).mono ?_
            rintro e v5a ⟨rfl, hb5a⟩
            have E5a : Below w1.heap.size w1 v5a := E5d.trans (hb5a.mono E5d.size)
            have LA5a := LA5d.below hb5a
            have LB5a := LB5d.below hb5a
            have LC5a := LC5d.below hb5a
            have LJ5a := LJ5d.below hb5a
            have LM5a := LM5d.below hb5a
            have S5a : v5a.cell? ⟨PA, 0, none⟩ = some (.int .i64 b1) ∧ v5a.cell? ⟨PA, 1, none⟩ = some (.slice a1 l1.length c1) ∧ v5a.cell? ⟨PB, 0, none⟩ = some (.int .i64 b2) ∧ v5a.cell? ⟨PB, 1, none⟩ = some (.slice a2 l2.length c2) ∧ v5a.cell? ⟨PC, 0, none⟩ = some (.int .i64 b3) ∧ v5a.cell? ⟨PC, 1, none⟩ = some (.slice a3 l3.length c3) ∧ v5a.cell? ⟨PM, 0, none⟩ = some (.int .i64 bm) ∧ v5a.cell? ⟨PM, 1, none⟩ = some (.slice am lm.length cm) := ⟨LA5a.two.1, LA5a.two.2, LB5a.two.1, LB5a.two.2, LC5a.two.1, LC5a.two.2, LM5a.two.1, LM5a.two.2⟩
            refine hK1.out _ _ (fun _ => S5a) ?_
            clear hK1 K1 hb5a E5d S5d LA5d LB5d LC5d LJ5d LM5d
            refine AnyL.takeD (i := 6) (d := 100) (.bool true) rfl rfl (by kernel_rfl) (by kernel_rfl) (by kernel_rfl) (by kernel_rfl) (fun _ _ _ h => h) S5a (Or.inl ⟨by rfl, fun w' h => (by dsimp only at h; go_simp)⟩) ?_
            simp only [Act.put, List.setIfInBounds_toArray, List.set_cons_zero, List.set_cons_succ]
            refine AnyL.takeD (i := 7) (d := 101) (.agg #[.int .i64 bm, .slice am lm.length cm]) rfl rfl (by kernel_rfl) (by kernel_rfl) (by kernel_rfl) (by kernel_rfl) (fun _ _ _ h => h) S5a (Or.inl ⟨by rfl, fun w' h => (by dsimp only at h; go_simp)⟩) ?_
            simp only [Act.put, List.setIfInBounds_toArray, List.set_cons_zero, List.set_cons_succ]
            refine AnyL.takeD (i := 8) (d := 102) (.agg #[.int .i64 b2, .slice a2 l2.length c2]) rfl rfl (by kernel_rfl) (by kernel_rfl) (by kernel_rfl) (by kernel_rfl) (fun _ _ _ h => h) S5a (Or.inl ⟨by rfl, fun w' h => (by dsimp only at h; go_simp)⟩) ?_
            simp only [Act.put, List.setIfInBounds_toArray, List.set_cons_zero, List.set_cons_succ]
            refine AnyL.one (i := 9) rfl (by kernel_rfl) (fun K1 hK1 => ?_)
            go_simp
            refine (Imb.out _ _ _ LM5a.cats LB5a.cats).mono ?_
            rintro e v5b ⟨rfl, hb5b⟩
            have E5b : Below w1.heap.size w1 v5b := E5a.trans (hb5b.mono E5a.size)
            have LA5b := LA5a.below hb5b
            have LB5b := LB5a.below hb5b
            have LC5b := LC5a.below hb5b
            have LJ5b := LJ5a.below hb5b
            have LM5b := LM5a.below hb5b
            have S5b : v5b.cell? ⟨PA, 0, none⟩ = some (.int .i64 b1) ∧ v5b.cell? ⟨PA, 1, none⟩ = some (.slice a1 l1.length c1) ∧ v5b.cell? ⟨PB, 0, none⟩ = some (.int .i64 b2) ∧ v5b.cell? ⟨PB, 1, none⟩ = some (.slice a2 l2.length c2) ∧ v5b.cell? ⟨PC, 0, none⟩ = some (.int .i64 b3) ∧ v5b.cell? ⟨PC, 1, none⟩ = some (.slice a3 l3.length c3) ∧ v5b.cell? ⟨PM, 0, none⟩ = some (.int .i64 bm) ∧ v5b.cell? ⟨PM, 1, none⟩ = some (.slice am lm.length cm) := ⟨LA5b.two.1, LA5b.two.2, LB5b.two.1, LB5b.two.2, LC5b.two.1, LC5b.two.2, LM5b.two.1, LM5b.two.2⟩
            refine hK1.out _ _ (fun _ => S5b) ?_
            clear hK1 K1 hb5b E5a S5a LA5a LB5a LC5a LJ5a LM5a
            refine AnyL.takeD (i := 10) (d := 104) (.bool true) rfl rfl (by kernel_rfl) (by kernel_rfl) (by kernel_rfl) (by kernel_rfl) (fun _ _ _ h => h) S5b (Or.inl ⟨by rfl, fun w' h => (by dsimp only at h; go_simp)⟩) ?_
            simp only [Act.put, List.setIfInBounds_toArray, List.set_cons_zero, List.set_cons_succ]
            refine AnyL.takeD (i := 11) (d := 105) (.bool true) rfl rfl (by kernel_rfl) (by kernel_rfl) (by kernel_rfl) (by kernel_rfl) (fun _ _ _ h => h) S5b (Or.inl ⟨by rfl, fun w' h => (by dsimp only at h; go_simp)⟩) ?_
            simp only [Act.put, List.setIfInBounds_toArray, List.set_cons_zero, List.set_cons_succ]
            refine AnyL.takeD (i := 12) (d := 106) (.agg #[.int .i64 b3, .slice a3 l3.length c3]) rfl rfl (by kernel_rfl) (by kernel_rfl) (by kernel_rfl) (by kernel_rfl) (fun _ _ _ h => h) S5b (Or.inl ⟨by rfl, fun w' h => (by dsimp only at h; go_simp)⟩) ?_
            simp only [Act.put, List.setIfInBounds_toArray, List.set_cons_zero, List.set_cons_succ]
            refine AnyL.takeD (i := 13) (d := 107) (.agg #[.int .i64 b1, .slice a1 l1.length c1]) rfl rfl (by kernel_rfl) (by kernel_rfl) (by kernel_rfl) (by kernel_rfl) (fun _ _ _ h => h) S5b (Or.inl ⟨by rfl, fun w' h => (by dsimp only at h; go_simp)⟩) ?_
            simp only [Act.put, List.setIfInBounds_toArray, List.set_cons_zero, List.set_cons_succ]
            refine AnyL.takeD (i := 20) (d := 114) (.agg #[.int .i64 b3, .slice a3 l3.length c3]) rfl rfl (by kernel_rfl) (by kernel_rfl) (by kernel_rfl) (by kernel_rfl) (fun _ _ _ h => h) S5b (Or.inl ⟨by rfl, fun w' h => (by dsimp only at h; go_simp)⟩) ?_
            simp only [Act.put, List.setIfInBounds_toArray, List.set_cons_zero, List.set_cons_succ]
            refine AnyL.takeD (i := 21) (d := 115) (.agg #[.int .i64 bm, .slice am lm.length cm]) rfl rfl (by kernel_rfl) (by kernel_rfl) (by kernel_rfl) (by kernel_rfl) (fun _ _ _ h => h) S5b (Or.inl ⟨by rfl, fun w' h => (by dsimp only at h; go_simp)⟩) ?_
            simp only [Act.put, List.setIfInBounds_toArray, List.set_cons_zero, List.set_cons_succ]
            refine AnyL.one (i := 14) rfl (by kernel_rfl) (fun K1 hK1 => ?_)
            go_simp
            refine (Ica.out  _ LC5b.cats LA5b.cats).mono ?_
            rintro e v5c ⟨rfl, hb5c⟩
            have E5c : Below w1.heap.size w1 v5c := E5b.trans (hb5c.mono E5b.size)
            have LA5c := LA5b.below hb5c
            have LB5c := LB5b.below hb5c
            have LC5c := LC5b.below hb5c
            have LJ5c := LJ5b.below hb5c
            have LM5c := LM5b.below hb5c
            have S5c : v5c.cell? ⟨PA, 0, none⟩ = some (.int .i64 b1) ∧ v5c.cell? ⟨PA, 1, none⟩ = some (.slice a1 l1.length c1) ∧ v5c.cell? ⟨PB, 0, none⟩ = some (.int .i64 b2) ∧ v5c.cell? ⟨PB, 1, none⟩ = some (.slice a2 l2.length c2) ∧ v5c.cell? ⟨PC, 0, none⟩ = some (.int .i64 b3) ∧ v5c.cell? ⟨PC, 1, none⟩ = some (.slice a3 l3.length c3) ∧ v5c.cell? ⟨PM, 0, none⟩ = some (.int .i64 bm) ∧ v5c.cell? ⟨PM, 1, none⟩ = some (.slice am lm.length cm) := ⟨LA5c.two.1, LA5c.two.2, LB5c.two.1, LB5c.two.2, LC5c.two.1, LC5c.two.2, LM5c.two.1, LM5c.two.2⟩
            refine hK1.out _ _ (fun _ => S5c) ?_
            clear hK1 K1 hb5c E5b S5b LA5b LB5b LC5b LJ5b LM5b
            refine AnyL.takeD (i := 15) (d := 109) (.bool true) rfl rfl (by kernel_rfl) (by kernel_rfl) (by kernel_rfl) (by kernel_rfl) (fun _ _ _ h => h) S5c (Or.inl ⟨by rfl, fun w' h => (by dsimp only at h; go_simp)⟩) ?_
            simp only [Act.put, List.setIfInBounds_toArray, List.set_cons_zero, List.set_cons_succ]
            refine AnyL.takeD (i := 16) (d := 110) (.agg #[.int .i64 b3, .slice a3 l3.length c3]) rfl rfl (by kernel_rfl) (by kernel_rfl) (by kernel_rfl) (by kernel_rfl) (fun _ _ _ h => h) S5c (Or.inl ⟨by rfl, fun w' h => (by dsimp only at h; go_simp)⟩) ?_
            simp only [Act.put, List.setIfInBounds_toArray, List.set_cons_zero, List.set_cons_succ]
            refine AnyL.takeD (i := 17) (d := 111) (.agg #[.int .i64 b2, .slice a2 l2.length c2]) rfl rfl (by kernel_rfl) (by kernel_rfl) (by kernel_rfl) (by kernel_rfl) (fun _ _ _ h => h) S5c (Or.inl ⟨by rfl, fun w' h => (by dsimp only at h; go_simp)⟩) ?_
            simp only [Act.put, List.setIfInBounds_toArray, List.set_cons_zero, List.set_cons_succ]
            refine AnyL.one (i := 18) rfl (by kernel_rfl) (fun K1 hK1 => ?_)
            go_simp
            refine (Icb.out  _ LC5c.cats LB5c.cats).mono ?_
            rintro e v5d ⟨rfl, hb5d⟩
            have E5d : Below w1.heap.size w1 v5d := E5c.trans (hb5d.mono E5c.size)
            have LA5d := LA5c.below hb5d
            have LB5d := LB5c.below hb5d
            have LC5d := LC5c.below hb5d
            have LJ5d := LJ5c.below hb5d
            have LM5d := LM5c.below hb5d
            have S5d : v5d.cell? ⟨PA, 0, none⟩ = some (.int .i64 b1) ∧ v5d.cell? ⟨PA, 1, none⟩ = some (.slice a1 l1.length c1) ∧ v5d.cell? ⟨PB, 0, none⟩ = some (.int .i64 b2) ∧ v5d.cell? ⟨PB, 1, none⟩ = some (.slice a2 l2.length c2) ∧ v5d.cell? ⟨PC, 0, none⟩ = some (.int .i64 b3) ∧ v5d.cell? ⟨PC, 1, none⟩ = some (.slice a3 l3.length c3) ∧ v5d.cell? ⟨PM, 0, none⟩ = some (.int .i64 bm) ∧ v5d.cell? ⟨PM, 1, none⟩ = some (.slice am lm.length cm) := ⟨LA5d.two.1, LA5d.two.2, LB5d.two.1, LB5d.two.2, LC5d.two.1, LC5d.two.2, LM5d.two.1, LM5d.two.2⟩
            refine hK1.out _ _ (fun _ => S5d) ?_
            clear hK1 K1 hb5d E5c S5c LA5c LB5c LC5c LJ5c LM5c
            refine AnyL.takeD (i := 19) (d := 113) (.bool false) rfl rfl (by kernel_rfl) (by kernel_rfl) (by kernel_rfl) (by kernel_rfl) (fun _ _ _ h => h) S5d (Or.inl ⟨by rfl, fun w' h => (by dsimp only at h; go_simp)⟩) ?_
            simp only [Act.put, List.setIfInBounds_toArray, List.set_cons_zero, List.set_cons_succ]
            refine AnyL.one (i := 22) rfl (by kernel_rfl) (fun K1 hK1 => ?_)
            go_simp
            refine (Icm.out _ _ _ LC5d.cats LM5d.cats).mono ?_
            rintro e v5e ⟨rfl, hb5e⟩
            have E5e : Below w1.heap.size w1 v5e := E5d.trans (hb5e.mono E5d.size)
            have LA5e := LA5d.below hb5e
            have LB5e := LB5d.below hb5e
            have LC5e := LC5d.below hb5e
            have LJ5e := LJ5d.below hb5e
            have LM5e := LM5d.below hb5e
            have S5e : v5e.cell? ⟨PA, 0, none⟩ = some (.int .i64 b1) ∧ v5e.cell? ⟨PA, 1, none⟩ = some (.slice a1 l1.length c1) ∧ v5e.cell? ⟨PB, 0, none⟩ = some (.int .i64 b2) ∧ v5e.cell? ⟨PB, 1, none⟩ = some (.slice a2 l2.length c2) ∧ v5e.cell? ⟨PC, 0, none⟩ = some (.int .i64 b3) ∧ v5e.cell? ⟨PC, 1, none⟩ = some (.slice a3 l3.length c3) ∧ v5e.cell? ⟨PM, 0, none⟩ = some (.int .i64 bm) ∧ v5e.cell? ⟨PM, 1, none⟩ = some (.slice am lm.length cm) := ⟨LA5e.two.1, LA5e.two.2, LB5e.two.1, LB5e.two.2, LC5e.two.1, LC5e.two.2, LM5e.two.1, LM5e.two.2⟩
            refine hK1.out _ _ (fun _ => S5e) ?_
            clear hK1 K1 hb5e E5d S5d LA5d LB5d LC5d LJ5d LM5d
            refine AnyL.takeD (i := 23) (d := 117) (.bool true) rfl rfl (by kernel_rfl) (by kernel_rfl) (by kernel_rfl) (by kernel_rfl) (fun _ _ _ h => h) S5e (Or.inl ⟨by rfl, fun w' h => (by dsimp only at h; go_simp)⟩) ?_
            simp only [Act.put, List.setIfInBounds_toArray, List.set_cons_zero, List.set_cons_succ]
            refine AnyL.takeD (i := 24) (d := 118) (.bool true) rfl rfl (by kernel_rfl) (by kernel_rfl) (by kernel_rfl) (by kernel_rfl) (fun _ _ _ h => h) S5e (Or.inl ⟨by rfl, fun w' h => (by dsimp only at h; go_simp)⟩) ?_
            simp only [Act.put, List.setIfInBounds_toArray, List.set_cons_zero, List.set_cons_succ]
            refine AnyL.takeD (i := 25) (d := 119) (.bool true) rfl rfl (by kernel_rfl) (by kernel_rfl) (by kernel_rfl) (by kernel_rfl) (fun _ _ _ h => h) S5e (Or.inl ⟨by rfl, fun w' h => (by dsimp only at h; go_simp)⟩) ?_
            simp only [Act.put, List.setIfInBounds_toArray, List.set_cons_zero, List.set_cons_succ]
            refine AnyL.takeD (i := 26) (d := 2) (.bool true) rfl rfl (by kernel_rfl) (by kernel_rfl) (by kernel_rfl) (by kernel_rfl) (fun _ _ _ h => h) S5e (Or.inl ⟨by rfl, fun w' h => (by dsimp only at h; go_simp)⟩) ?_
            simp only [Act.put, List.setIfInBounds_toArray, List.set_cons_zero, List.set_cons_succ]
            refine AnyL.done (by kernel_rfl) ?_
            clear LA5e LB5e LC5e LJ5e LM5e S5e
            go_wp2
            go_ret
            exact ⟨rfl, E5e⟩
          | true =>
            go_wp2_with fail
            have LA5d := LA5.below (Below.refl _ wc).drew
            have LB5d := LB5.below (Below.refl _ wc).drew
            have LC5d := LC5.below (Below.refl _ wc).drew
            have LJ5d := LJ5.below (Below.refl _ wc).drew
            have LM5d := LM5.below (Below.refl _ wc).drew
            have E5d := E5.drew
            have S5d : wc.drew.cell? ⟨PA, 0, none⟩ = some (.int .i64 b1) ∧ wc.drew.cell? ⟨PA, 1, none⟩ = some (.slice a1 l1.length c1) ∧ wc.drew.cell? ⟨PB, 0, none⟩ = some (.int .i64 b2) ∧ wc.drew.cell? ⟨PB, 1, none⟩ = some (.slice a2 l2.length c2) ∧ wc.drew.cell? ⟨PC, 0, none⟩ = some (.int .i64 b3) ∧ wc.drew.cell? ⟨PC, 1, none⟩ = some (.slice a3 l3.length c3) ∧ wc.drew.cell? ⟨PM, 0, none⟩ = some (.int .i64 bm) ∧ wc.drew.cell? ⟨PM, 1, none⟩ = some (.slice am lm.length cm) := ⟨LA5d.two.1, LA5d.two.2, LB5d.two.1, LB5d.two.2, LC5d.two.1, LC5d.two.2, LM5d.two.1, LM5d.two.2⟩
            refine AnyL.region (fun w' => w'.cell? ⟨PA, 0, none⟩ = some (.int .i64 b1) ∧ w'.cell? ⟨PA, 1, none⟩ = some (.slice a1 l1.length c1) ∧ w'.cell? ⟨PB, 0, none⟩ = some (.int .i64 b2) ∧ w'.cell? ⟨PB, 1, none⟩ = some (.slice a2 l2.length c2) ∧ w'.cell? ⟨PC, 0, none⟩ = some (.int .i64 b3) ∧ w'.cell? ⟨PC, 1, none⟩ = some (.slice a3 l3.length c3) ∧ w'.cell? ⟨PM, 0, none⟩ = some (.int .i64 bm) ∧ w'.cell? ⟨PM, 1, none⟩ = some (.slice am lm.length cm)) 999 (by kernel_rfl) ?_
            refine AnyL.takeD (i := 0) (d := 94) (.bool true) rfl rfl (by kernel_rfl) (by kernel_rfl) (by kernel_rfl) (by kernel_rfl) (fun _ _ _ h => h) S5d (Or.inl ⟨by rfl, fun w' h => (by dsimp only at h; go_simp)⟩) ?_
            simp only [Act.put, List.setIfInBounds_toArray, List.set_cons_zero, List.set_cons_succ]
            refine AnyL.takeD (i := 1) (d := 95) (.bool false) rfl rfl (by kernel_rfl) (by kernel_rfl) (by kernel_rfl) (by kernel_rfl) (fun _ _ _ h => h) S5d (Or.inl ⟨by rfl, fun w' h => (by dsimp only at h; go_simp)⟩) ?_
            simp only [Act.put, List.setIfInBounds_toArray, List.set_cons_zero, List.set_cons_succ]
            refine AnyL.takeD (i := 2) (d := 96) (.bool false) rfl rfl (by kernel_rfl) (by kernel_rfl) (by kernel_rfl) (by kernel_rfl) (fun _ _ _ h => h) S5d (Or.inl ⟨by rfl, fun w' h => (by dsimp only at h; go_simp)⟩) ?_
            simp only [Act.put, List.setIfInBounds_toArray, List.set_cons_zero, List.set_cons_succ]
            refine AnyL.takeD (i := 3) (d := 97) (.agg #[.int .i64 bm, .slice am lm.length cm]) rfl rfl (by kernel_rfl) (by kernel_rfl) (by kernel_rfl) (by kernel_rfl) (fun _ _ _ h => h) S5d (Or.inl ⟨by rfl, fun w' h => (by dsimp only at h; go_simp)⟩) ?_
            simp only [Act.put, List.setIfInBounds_toArray, List.set_cons_zero, List.set_cons_succ]
            refine AnyL.takeD (i := 4) (d := 98) (.agg #[.int .i64 b1, .slice a1 l1.length c1]) rfl rfl (by kernel_rfl) (by kernel_rfl) (by kernel_rfl) (by kernel_rfl) (fun _ _ _ h => h) S5d (Or.inl ⟨by rfl, fun w' h => (by dsimp only at h; go_simp)⟩) ?_
            simp only [Act.put, List.setIfInBounds_toArray, List.set_cons_zero, List.set_cons_succ]
            refine AnyL.one (i := 5) rfl (by kernel_rfl) (fun K1 hK1 => ?_)
            go_simp
            refine (Ima.out _ _ _ LM5d.cats LA5d.cats).mono ?_
            rintro e v5a ⟨rfl, hb5a⟩
            have E5a : Below w1.heap.size w1 v5a := E5d.trans (hb5a.mono E5d.size)
            have LA5a := LA5d.below hb5a
            have LB5a := LB5d.below hb5a
            have LC5a := LC5d.below hb5a
            have LJ5a := LJ5d.below hb5a
            have LM5a := LM5d.below hb5a
            have S5a : v5a.cell? ⟨PA, 0, none⟩ = some (.int .i64 b1) ∧ v5a.cell? ⟨PA, 1, none⟩ = some (.slice a1 l1.length c1) ∧ v5a.cell? ⟨PB, 0, none⟩ = some (.int .i64 b2) ∧ v5a.cell? ⟨PB, 1, none⟩ = some (.slice a2 l2.length c2) ∧ v5a.cell? ⟨PC, 0, none⟩ = some (.int .i64 b3) ∧ v5a.cell? ⟨PC, 1, none⟩ = some (.slice a3 l3.length c3) ∧ v5a.cell? ⟨PM, 0, none⟩ = some (.int .i64 bm) ∧ v5a.cell? ⟨PM, 1, none⟩ = some (.slice am lm.length cm) := ⟨LA5a.two.1, LA5a.two.2, LB5a.two.1, LB5a.two.2, LC5a.two.1, LC5a.two.2, LM5a.two.1, LM5a.two.2⟩
            refine hK1.out _ _ (fun _ => S5a) ?_
            clear hK1 K1 hb5a E5d S5d LA5d LB5d LC5d LJ5d LM5d
            refine AnyL.takeD (i := 6) (d := 100) (.bool true) rfl rfl (by kernel_rfl) (by kernel_rfl) (by kernel_rfl) (by kernel_rfl) (fun _ _ _ h => h) S5a (Or.inl ⟨by rfl, fun w' h => (by dsimp only at h; go_simp)⟩) ?_
            simp only [Act.put, List.setIfInBounds_toArray, List.set_cons_zero, List.set_cons_succ]
            refine AnyL.takeD (i := 7) (d := 101) (.agg #[.int .i64 bm, .slice am lm.length cm]) rfl rfl (by kernel_rfl) (by kernel_rfl) (by kernel_rfl) (by kernel_rfl) (fun _ _ _ h => h) S5a (Or.inl ⟨by rfl, fun w' h => (by dsimp only at h; go_simp)⟩) ?_
            simp only [Act.put, List.setIfInBounds_toArray, List.set_cons_zero, List.set_cons_succ]
            refine AnyL.takeD (i := 8) (d := 102) (.agg #[.int .i64 b2, .slice a2 l2.length c2]) rfl rfl (by kernel_rfl) (by kernel_rfl) (by kernel_rfl) (by kernel_rfl) (fun _ _ _ h => h) S5a (Or.inl ⟨by rfl, fun w' h => (by dsimp only at h; go_simp)⟩) ?_
            simp only [Act.put, List.setIfInBounds_toArray, List.set_cons_zero, List.set_cons_succ]
            refine AnyL.one (i := 9) rfl (by kernel_rfl) (fun K1 hK1 => ?_)
            go_simp
            refine (Imb.out _ _ _ LM5a.cats LB5a.cats).mono ?_
            rintro e v5b ⟨rfl, hb5b⟩
            have E5b : Below w1.heap.size w1 v5b := E5a.trans (hb5b.mono E5a.size)
            have LA5b := LA5a.below hb5b
            have LB5b := LB5a.below hb5b
            have LC5b := LC5a.below hb5b
            have LJ5b := LJ5a.below hb5b
            have LM5b := LM5a.below hb5b
            have S5b : v5b.cell? ⟨PA, 0, none⟩ = some (.int .i64 b1) ∧ v5b.cell? ⟨PA, 1, none⟩ = some (.slice a1 l1.length c1) ∧ v5b.cell? ⟨PB, 0, none⟩ = some (.int .i64 b2) ∧ v5b.cell? ⟨PB, 1, none⟩ = some (.slice a2 l2.length c2) ∧ v5b.cell? ⟨PC, 0, none⟩ = some (.int .i64 b3) ∧ v5b.cell? ⟨PC, 1, none⟩ = some (.slice a3 l3.length c3) ∧ v5b.cell? ⟨PM, 0, none⟩ = some (.int .i64 bm) ∧ v5b.cell? ⟨PM, 1, none⟩ = some (.slice am lm.length cm) := ⟨LA5b.two.1, LA5b.two.2, LB5b.two.1, LB5b.two.2, LC5b.two.1, LC5b.two.2, LM5b.two.1, LM5b.two.2⟩
            refine hK1.out _ _ (fun _ => S5b) ?_
            clear hK1 K1 hb5b E5a S5a LA5a LB5a LC5a LJ5a LM5a
            refine AnyL.takeD (i := 10) (d := 104) (.bool true) rfl rfl (by kernel_rfl) (by kernel_rfl) (by kernel_rfl) (by kernel_rfl) (fun _ _ _ h => h) S5b (Or.inl ⟨by rfl, fun w' h => (by dsimp only at h; go_simp)⟩) ?_
            simp only [Act.put, List.setIfInBounds_toArray, List.set_cons_zero, List.set_cons_succ]
            refine AnyL.takeD (i := 11) (d := 105) (.bool true) rfl rfl (by kernel_rfl) (by kernel_rfl) (by kernel_rfl) (by kernel_rfl) (fun _ _ _ h => h) S5b (Or.inl ⟨by rfl, fun w' h => (by dsimp only at h; go_simp)⟩) ?_
            simp only [Act.put, List.setIfInBounds_toArray, List.set_cons_zero, List.set_cons_succ]
            refine AnyL.takeD (i := 12) (d := 106) (.agg #[.int .i64 b3, .slice a3 l3.length c3]) rfl rfl (by kernel_rfl) (by kernel_rfl) (by kernel_rfl) (by kernel_rfl) (fun _ _ _ h => h) S5b (Or.inl ⟨by rfl, fun w' h => (by dsimp only at h; go_simp)⟩) ?_
            simp only [Act.put, List.setIfInBounds_toArray, List.set_cons_zero, List.set_cons_succ]
            refine AnyL.takeD (i := 13) (d := 107) (.agg #[.int .i64 b1, .slice a1 l1.length c1]) rfl rfl (by kernel_rfl) (by kernel_rfl) (by kernel_rfl) (by kernel_rfl) (fun _ _ _ h => h) S5b (Or.inl ⟨by rfl, fun w' h => (by dsimp only at h; go_simp)⟩) ?_
            simp only [Act.put, List.setIfInBounds_toArray, List.set_cons_zero, List.set_cons_succ]
            refine AnyL.takeD (i := 20) (d := 114) (.agg #[.int .i64 b3, .slice a3 l3.length c3]) rfl rfl (by kernel_rfl) (by kernel_rfl) (by kernel_rfl) (by kernel_rfl) (fun _ _ _ h => h) S5b (Or.inl ⟨by rfl, fun w' h => (by dsimp only at h; go_simp)⟩) ?_
            simp only [Act.put, List.setIfInBounds_toArray, List.set_cons_zero, List.set_cons_succ]
            refine AnyL.takeD (i := 21) (d := 115) (.agg #[.int .i64 bm, .slice am lm.length cm]) rfl rfl (by kernel_rfl) (by kernel_rfl) (by kernel_rfl) (by kernel_rfl) (fun _ _ _ h => h) S5b (Or.inl ⟨by rfl, fun w' h => (by dsimp only at h; go_simp)⟩) ?_
            simp only [Act.put, List.setIfInBounds_toArray, List.set_cons_zero, List.set_cons_succ]
            refine AnyL.one (i := 14) rfl (by kernel_rfl) (fun K1 hK1 => ?_)
            go_simp
            refine (Ica.out  _ LC5b.cats LA5b.cats).mono ?_
            rintro e v5c ⟨rfl, hb5c⟩
            have E5c : Below w1.heap.size w1 v5c := E5b.trans (hb5c.mono E5b.size)
            have LA5c := LA5b.below hb5c
            have LB5c := LB5b.below hb5c
            have LC5c := LC5b.below hb5c
            have LJ5c := LJ5b.below hb5c
            have LM5c := LM5b.below hb5c
            have S5c : v5c.cell? ⟨PA, 0, none⟩ = some (.int .i64 b1) ∧ v5c.cell? ⟨PA, 1, none⟩ = some (.slice a1 l1.length c1) ∧ v5c.cell? ⟨PB, 0, none⟩ = some (.int .i64 b2) ∧ v5c.cell? ⟨PB, 1, none⟩ = some (.slice a2 l2.length c2) ∧ v5c.cell? ⟨PC, 0, none⟩ = some (.int .i64 b3) ∧ v5c.cell? ⟨PC, 1, none⟩ = some (.slice a3 l3.length c3) ∧ v5c.cell? ⟨PM, 0, none⟩ = some (.int .i64 bm) ∧ v5c.cell? ⟨PM, 1, none⟩ = some (.slice am lm.length cm) := ⟨LA5c.two.1, LA5c.two.2, LB5c.two.1, LB5c.two.2, LC5c.two.1, LC5c.two.2, LM5c.two.1, LM5c.two.2⟩
            refine hK1.out _ _ (fun _ => S5c) ?_
            clear hK1 K1 hb5c E5b S5b LA5b LB5b LC5b LJ5b LM5b
            refine AnyL.takeD (i := 15) (d := 109) (.bool true) rfl rfl (by kernel_rfl) (by kernel_rfl) (by kernel_rfl) (by kernel_rfl) (fun _ _ _ h => h) S5c (Or.inl ⟨by rfl, fun w' h => (by dsimp only at h; go_simp)⟩) ?_
            simp only [Act.put, List.setIfInBounds_toArray, List.set_cons_zero, List.set_cons_succ]
            refine AnyL.takeD (i := 16) (d := 110) (.agg #[.int .i64 b3, .slice a3 l3.length c3]) rfl rfl (by kernel_rfl) (by kernel_rfl) (by kernel_rfl) (by kernel_rfl) (fun _ _ _ h => h) S5c (Or.inl ⟨by rfl, fun w' h => (by dsimp only at h; go_simp)⟩) ?_
            simp only [Act.put, List.setIfInBounds_toArray, List.set_cons_zero, List.set_cons_succ]
            refine AnyL.takeD (i := 17) (d := 111) (.agg #[.int .i64 b2, .slice a2 l2.length c2]) rfl rfl (by kernel_rfl) (by kernel_rfl) (by kernel_rfl) (by kernel_rfl) (fun _ _ _ h => h) S5c (Or.inl ⟨by rfl, fun w' h => (by dsimp only at h; go_simp)⟩) ?_
            simp only [Act.put, List.setIfInBounds_toArray, List.set_cons_zero, List.set_cons_succ]
            refine AnyL.one (i := 18) rfl (by kernel_rfl) (fun K1 hK1 => ?_)
            go_simp
            refine (Icb.out  _ LC5c.cats LB5c.cats).mono ?_
            rintro e v5d ⟨rfl, hb5d⟩
            have E5d : Below w1.heap.size w1 v5d := E5c.trans (hb5d.mono E5c.size)
            have LA5d := LA5c.below hb5d
            have LB5d := LB5c.below hb5d
            have LC5d := LC5c.below hb5d
            have LJ5d := LJ5c.below hb5d
            have LM5d := LM5c.below hb5d
            have S5d : v5d.cell? ⟨PA, 0, none⟩ = some (.int .i64 b1) ∧ v5d.cell? ⟨PA, 1, none⟩ = some (.slice a1 l1.length c1) ∧ v5d.cell? ⟨PB, 0, none⟩ = some (.int .i64 b2) ∧ v5d.cell? ⟨PB, 1, none⟩ = some (.slice a2 l2.length c2) ∧ v5d.cell? ⟨PC, 0, none⟩ = some (.int .i64 b3) ∧ v5d.cell? ⟨PC, 1, none⟩ = some (.slice a3 l3.length c3) ∧ v5d.cell? ⟨PM, 0, none⟩ = some (.int .i64 bm) ∧ v5d.cell? ⟨PM, 1, none⟩ = some (.slice am lm.length cm) := ⟨LA5d.two.1, LA5d.two.2, LB5d.two.1, LB5d.two.2, LC5d.two.1, LC5d.two.2, LM5d.two.1, LM5d.two.2⟩
            refine hK1.out _ _ (fun _ => S5d) ?_
            clear hK1 K1 hb5d E5c S5c LA5c LB5c LC5c LJ5c LM5c
            refine AnyL.takeD (i := 19) (d := 113) (.bool true) rfl rfl (by kernel_rfl) (by kernel_rfl) (by kernel_rfl) (by kernel_rfl) (fun _ _ _ h => h) S5d (Or.inl ⟨by rfl, fun w' h => (by dsimp only at h; go_simp)⟩) ?_
            simp only [Act.put, List.setIfInBounds_toArray, List.set_cons_zero, List.set_cons_succ]
            refine AnyL.one (i := 22) rfl (by kernel_rfl) (fun K1 hK1 => ?_)
            go_simp
            refine (Icm.out _ _ _ LC5d.cats LM5d.cats).mono ?_
            rintro e v5e ⟨rfl, hb5e⟩
            have E5e : Below w1.heap.size w1 v5e := E5d.trans (hb5e.mono E5d.size)
            have LA5e := LA5d.below hb5e
            have LB5e := LB5d.below hb5e
            have LC5e := LC5d.below hb5e
            have LJ5e := LJ5d.below hb5e
            have LM5e := LM5d.below hb5e
            have S5e : v5e.cell? ⟨PA, 0, none⟩ = some (.int .i64 b1) ∧ v5e.cell? ⟨PA, 1, none⟩ = some (.slice a1 l1.length c1) ∧ v5e.cell? ⟨PB, 0, none⟩ = some (.int .i64 b2) ∧ v5e.cell? ⟨PB, 1, none⟩ = some (.slice a2 l2.length c2) ∧ v5e.cell? ⟨PC, 0, none⟩ = some (.int .i64 b3) ∧ v5e.cell? ⟨PC, 1, none⟩ = some (.slice a3 l3.length c3) ∧ v5e.cell? ⟨PM, 0, none⟩ = some (.int .i64 bm) ∧ v5e.cell? ⟨PM, 1, none⟩ = some (.slice am lm.length cm) := ⟨LA5e.two.1, LA5e.two.2, LB5e.two.1, LB5e.two.2, LC5e.two.1, LC5e.two.2, LM5e.two.1, LM5e.two.2⟩
            refine hK1.out _ _ (fun _ => S5e) ?_
            clear hK1 K1 hb5e E5d S5d LA5d LB5d LC5d LJ5d LM5d
            refine AnyL.takeD (i := 23) (d := 117) (.bool true) rfl rfl (by kernel_rfl) (by kernel_rfl) (by kernel_rfl) (by kernel_rfl) (fun _ _ _ h => h) S5e (Or.inl ⟨by rfl, fun w' h => (by dsimp only at h; go_simp)⟩) ?_
            simp only [Act.put, List.setIfInBounds_toArray, List.set_cons_zero, List.set_cons_succ]
            refine AnyL.takeD (i := 24) (d := 118) (.bool true) rfl rfl (by kernel_rfl) (by kernel_rfl) (by kernel_rfl) (by kernel_rfl) (fun _ _ _ h => h) S5e (Or.inl ⟨by rfl, fun w' h => (by dsimp only at h; go_simp)⟩) ?_
            simp only [Act.put, List.setIfInBounds_toArray, List.set_cons_zero, List.set_cons_succ]
            refine AnyL.takeD (i := 25) (d := 119) (.bool true) rfl rfl (by kernel_rfl) (by kernel_rfl) (by kernel_rfl) (by kernel_rfl) (fun _ _ _ h => h) S5e (Or.inl ⟨by rfl, fun w' h => (by dsimp only at h; go_simp)⟩) ?_
            simp only [Act.put, List.setIfInBounds_toArray, List.set_cons_zero, List.set_cons_succ]
            refine AnyL.takeD (i := 26) (d := 2) (.bool true) rfl rfl (by kernel_rfl) (by kernel_rfl) (by kernel_rfl) (by kernel_rfl) (fun _ _ _ h => h) S5e (Or.inl ⟨by rfl, fun w' h => (by dsimp only at h; go_simp)⟩) ?_
            simp only [Act.put, List.setIfInBounds_toArray, List.set_cons_zero, List.set_cons_succ]
            refine AnyL.done (by kernel_rfl) ?_
            clear LA5e LB5e LC5e LJ5e LM5e S5e
            go_wp2
            go_ret
            exact ⟨rfl, E5e⟩
end Go.Proofs.Ytjmfaffghkclbaa
