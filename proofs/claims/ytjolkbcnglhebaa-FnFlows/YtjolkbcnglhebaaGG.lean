/- FnFlows: the walk: the law answers true at every code that came in, and writes nothing that was there. -/
import Derived.Test.YtjolkbcnglhebaaGF
import Derived.Test.YtjolkbcnglhebaaFK
import Derived.Test.YtjolkbcnglhebaaRG
import Derived.Test.YtjolkbcnglhebaaX
namespace Go.Proofs.Ytjolkbcnglhebaa
open Go.RowKit Go.Deep Go.Maps

set_option maxRecDepth 100000 in
set_option maxHeartbeats 8000000 in
theorem flows_walk (a : Option Addr) (n cap : Nat) (w : World) (hb : BytesAt w a n) :
    Calls Try.prog 4 #[.slice a n cap] w fun e w' => e = .returned (.bool true) ∧ Below w.heap.size w w' := by
  have HB : Hid (BytesAt w a n) := hb
  clear hb
  go_enter Try.func4, Try.ntmps4
  go_wp2_with fail
  refine (big_any _ _ _ _).mono ?_
  rintro e w1 ⟨rfl, rfl⟩
  by_cases hn : 1048576 < n
  · have hn' : decide (1048576 < n) = true := by simpa using hn
    rw [hn']
    go_wp2
    go_ret
    exact ⟨rfl, Below.refl _ _⟩
  · have hn' : decide (1048576 < n) = false := by simpa using hn
    rw [hn']
    have hn1 : n ≤ 1048576 := by omega
    clear hn hn'
    go_wp2_with fail
    refine (drawFlows_any a n cap _ hn1 HB.out).mono ?_
    rintro e w2 ⟨b1, l1, a1, c1, o, A, oc, b2, l2, a2, c2, rfl, k1, k2, ko, hgo, C1, CO, C2, E2⟩
    have XA : Blk ((w2.alloc (.cells #[.int .i64 b1, .slice a1 l1.length c1] 26)).alloc (.cells #[.int .i64 b2, .slice a2 l2.length c2] 26)) w2.heap.size (.cells #[.int .i64 b1, .slice a1 l1.length c1] 26) := (Blk.new _ _).alloc _
    have XB : Blk ((w2.alloc (.cells #[.int .i64 b1, .slice a1 l1.length c1] 26)).alloc (.cells #[.int .i64 b2, .slice a2 l2.length c2] 26)) (w2.heap.size + 1) (.cells #[.int .i64 b2, .slice a2 l2.length c2] 26) := by
      have := Blk.new (w2.alloc (.cells #[.int .i64 b1, .slice a1 l1.length c1] 26)) (.cells #[.int .i64 b2, .slice a2 l2.length c2] 26)
      simpa using this
    have K2 : Below w2.heap.size w2 ((w2.alloc (.cells #[.int .i64 b1, .slice a1 l1.length c1] 26)).alloc (.cells #[.int .i64 b2, .slice a2 l2.length c2] 26)) := ((Below.refl _ _).alloc (Nat.le_refl _) _).alloc (by simp) _
    go_wp2_with fail
    generalize (w2.alloc (.cells #[.int .i64 b1, .slice a1 l1.length c1] 26)).alloc (.cells #[.int .i64 b2, .slice a2 l2.length c2] 26) = W2 at *
    have E2' : Below w1.heap.size w1 W2 := E2.trans (K2.mono E2.size)
    refine (drawText_any a n cap _ hn1 (HB.out.below E2')).mono ?_
    rintro e w3 ⟨b3, l3, a3, c3, rfl, k3, C3, E3⟩
    have K3 := (Below.refl _ w3).alloc (Nat.le_refl _) (.cells #[.int .i64 b3, .slice a3 l3.length c3] 26)
    have YA := (XA.below E3).below K3
    have YB := (XB.below E3).below K3
    have YC := Blk.new w3 (.cells #[.int .i64 b3, .slice a3 l3.length c3] 26)
    have D1 := ((C1.below K2).below E3).below K3
    have D2 := ((C2.below K2).below E3).below K3
    have DO := ((CO.below K2).below E3).below K3
    have D3 := C3.below K3
    have EV : Below w1.heap.size w1 (w3.alloc (.cells #[.int .i64 b3, .slice a3 l3.length c3] 26)) := (E2'.trans (E3.mono E2'.size)).alloc (Nat.le_trans E2'.size E3.size) _
    clear XA XB C1 CO C2 C3 E2 E2' E3 K2 K3 HB
    obtain ⟨x1, x2⟩ := YA.two
    obtain ⟨x3, x4⟩ := YB.two
    go_wp2_with fail
    clear x1 x2 x3 x4
    generalize w3.alloc (.cells #[.int .i64 b3, .slice a3 l3.length c3] 26) = V at *
    generalize w2.heap.size = PA at *
    generalize PA + 1 = PB at *
    generalize w3.heap.size = PC at *
    have cells : ∀ W, Below V.heap.size V W → W.cell? ⟨PA, 0, none⟩ = some (.int .i64 b1) ∧ W.cell? ⟨PA, 1, none⟩ = some (.slice a1 l1.length c1) ∧ W.cell? ⟨PB, 0, none⟩ = some (.int .i64 b2) ∧ W.cell? ⟨PB, 1, none⟩ = some (.slice a2 l2.length c2) ∧ W.cell? ⟨PC, 0, none⟩ = some (.int .i64 b3) ∧ W.cell? ⟨PC, 1, none⟩ = some (.slice a3 l3.length c3) := fun W hW =>
      ⟨(YA.below hW).two.1, (YA.below hW).two.2, (YB.below hW).two.1, (YB.below hW).two.2, (YC.below hW).two.1, (YC.below hW).two.2⟩
    have HC : Hid (∀ W, Below V.heap.size V W → W.cell? ⟨PA, 0, none⟩ = some (.int .i64 b1) ∧ W.cell? ⟨PA, 1, none⟩ = some (.slice a1 l1.length c1) ∧ W.cell? ⟨PB, 0, none⟩ = some (.int .i64 b2) ∧ W.cell? ⟨PB, 1, none⟩ = some (.slice a2 l2.length c2) ∧ W.cell? ⟨PC, 0, none⟩ = some (.int .i64 b3) ∧ W.cell? ⟨PC, 1, none⟩ = some (.slice a3 l3.length c3)) := cells
    have Cab : Hid (∀ W : World, Below V.heap.size V W → Calls Try.prog 18 #[.agg #[.int .i64 b1, .slice a1 l1.length c1], .slice (some A) o.length oc, .agg #[.int .i64 b2, .slice a2 l2.length c2]] W fun e w' => e = .returned (.bool (flowAll b1 l1.length (fstAt l1) (sndAt l1) o.length (numAt o) b2 l2.length (fstAt l2) (sndAt l2))) ∧ Below W.heap.size W w') := fun W hW => implFlows_any _ _ _ _ _ _ _ _ _ (numAt o) _ _ _ _ _ _ _ (by unfold maxLen; omega) (by unfold maxLen; omega) (by unfold maxLen; omega) (D1.below hW) (D2.below hW) (DO.below hW).ints
    have Sab : Hid (∀ W : World, Below V.heap.size V W → Calls Try.prog 19 #[.agg #[.int .i64 b1, .slice a1 l1.length c1], .slice (some A) o.length oc, .agg #[.int .i64 b2, .slice a2 l2.length c2]] W fun e w' => e = .returned (.bool (flowAll b1 l1.length (fstAt l1) (sndAt l1) o.length (numAt o) b2 l2.length (fstAt l2) (sndAt l2))) ∧ Below W.heap.size W w') := fun W hW => specFlows_any _ _ _ _ _ _ _ _ _ (numAt o) _ _ _ _ _ _ _ (by unfold maxLen; omega) (by unfold maxLen; omega) (by unfold maxLen; omega) (D1.below hW) (D2.below hW) (DO.below hW).ints
    have Nab : Hid (∀ W : World, Below V.heap.size V W → Calls Try.prog 18 #[.agg #[.int .i64 b1, .slice a1 l1.length c1], .slice none 0 0, .agg #[.int .i64 b2, .slice a2 l2.length c2]] W fun e w' => e = .returned (.bool (leqB b1 l1.length (fstAt l1) (sndAt l1) b2 l2.length (fstAt l2) (sndAt l2))) ∧ Below W.heap.size W w') := fun W hW => by
      have := implFlows_any b1 a1 l1.length c1 _ _ none 0 0 (fun _ => 0) b2 a2 l2.length c2 _ _ W (by unfold maxLen; omega) (by unfold maxLen; omega) (by unfold maxLen; omega) (D1.below hW) (D2.below hW) (fun h => by omega)
      rw [flowAll_nil] at this
      exact this
    have Lab : Hid (∀ W : World, Below V.heap.size V W → Calls Try.prog 20 #[.agg #[.int .i64 b1, .slice a1 l1.length c1], .agg #[.int .i64 b2, .slice a2 l2.length c2]] W fun e w' => e = .returned (.bool (leqB b1 l1.length (fstAt l1) (sndAt l1) b2 l2.length (fstAt l2) (sndAt l2))) ∧ Below W.heap.size W w') := fun W hW => implLeq_any _ _ _ _ _ _ _ _ _ _ _ _ _ (by unfold maxLen; omega) (by unfold maxLen; omega) (D1.below hW) (D2.below hW)
    have Cbc : Hid (∀ W : World, Below V.heap.size V W → Calls Try.prog 18 #[.agg #[.int .i64 b2, .slice a2 l2.length c2], .slice (some A) o.length oc, .agg #[.int .i64 b3, .slice a3 l3.length c3]] W fun e w' => e = .returned (.bool (flowAll b2 l2.length (fstAt l2) (sndAt l2) o.length (numAt o) b3 l3.length (fstAt l3) (sndAt l3))) ∧ Below W.heap.size W w') := fun W hW => implFlows_any _ _ _ _ _ _ _ _ _ (numAt o) _ _ _ _ _ _ _ (by unfold maxLen; omega) (by unfold maxLen; omega) (by unfold maxLen; omega) (D2.below hW) (D3.below hW) (DO.below hW).ints
    have Cac : Hid (∀ W : World, Below V.heap.size V W → Calls Try.prog 18 #[.agg #[.int .i64 b1, .slice a1 l1.length c1], .slice (some A) o.length oc, .agg #[.int .i64 b3, .slice a3 l3.length c3]] W fun e w' => e = .returned (.bool (flowAll b1 l1.length (fstAt l1) (sndAt l1) o.length (numAt o) b3 l3.length (fstAt l3) (sndAt l3))) ∧ Below W.heap.size W w') := fun W hW => implFlows_any _ _ _ _ _ _ _ _ _ (numAt o) _ _ _ _ _ _ _ (by unfold maxLen; omega) (by unfold maxLen; omega) (by unfold maxLen; omega) (D1.below hW) (D3.below hW) (DO.below hW).ints
    have H1 : Hid (leqB b1 l1.length (fstAt l1) (sndAt l1) b2 l2.length (fstAt l2) (sndAt l2) = true → flowAll b1 l1.length (fstAt l1) (sndAt l1) o.length (numAt o) b2 l2.length (fstAt l2) (sndAt l2) = true) := fun h => flowAll_more (hgo.own (by omega)) h
    have H2 : Hid (flowAll b1 l1.length (fstAt l1) (sndAt l1) o.length (numAt o) b2 l2.length (fstAt l2) (sndAt l2) = true → flowAll b2 l2.length (fstAt l2) (sndAt l2) o.length (numAt o) b3 l3.length (fstAt l3) (sndAt l3) = true → flowAll b1 l1.length (fstAt l1) (sndAt l1) o.length (numAt o) b3 l3.length (fstAt l3) (sndAt l3) = true) := fun h k => flowAll_on h k
    generalize flowAll b1 l1.length (fstAt l1) (sndAt l1) o.length (numAt o) b2 l2.length (fstAt l2) (sndAt l2) = p at *
    generalize leqB b1 l1.length (fstAt l1) (sndAt l1) b2 l2.length (fstAt l2) (sndAt l2) = q at *
    generalize flowAll b2 l2.length (fstAt l2) (sndAt l2) o.length (numAt o) b3 l3.length (fstAt l3) (sndAt l3) = r at *
    generalize flowAll b1 l1.length (fstAt l1) (sndAt l1) o.length (numAt o) b3 l3.length (fstAt l3) (sndAt l3) = s at *
    clear cells YA YB YC D1 D2 D3 DO
    have E0 := Below.refl V.heap.size V
    refine (Cab.out _ E0).mono ?_
    rintro e V1 ⟨rfl, h1⟩
    have E1 := E0.trans (h1.mono E0.size)
    clear h1 E0
    cases q with
    | true =>
      obtain rfl : p = true := H1.out rfl
      go_wp2_with fail
      refine (wpIn_wide (n := 3)).1 ?_
      refine AnyF.region (fun w' => w'.cell? ⟨PA, 0, none⟩ = some (.int .i64 b1) ∧ w'.cell? ⟨PA, 1, none⟩ = some (.slice a1 l1.length c1) ∧ w'.cell? ⟨PB, 0, none⟩ = some (.int .i64 b2) ∧ w'.cell? ⟨PB, 1, none⟩ = some (.slice a2 l2.length c2) ∧ w'.cell? ⟨PC, 0, none⟩ = some (.int .i64 b3) ∧ w'.cell? ⟨PC, 1, none⟩ = some (.slice a3 l3.length c3)) [] hmixed ?_
      have E1dx := E1.drew
      have Sx := HC.out _ E1dx
      refine AnyF.takeD (i := 0) (d := 22) (.bool true) rfl rfl rfl (by kernel_rfl) (by kernel_rfl) (by kernel_rfl) (by kernel_rfl) (by kernel_rfl) (fun _ _ _ h => h) Sx (Or.inl ⟨by rfl, fun w' h => (by dsimp only at h; go_simp)⟩) (fun _ => by rfl) ?_
      simp only [Act.put, List.setIfInBounds_toArray, List.set_cons_zero, List.set_cons_succ]
      refine AnyF.takeD (i := 1) (d := 23) (.agg #[.int .i64 b1, .slice a1 l1.length c1]) rfl rfl rfl (by kernel_rfl) (by kernel_rfl) (by kernel_rfl) (by kernel_rfl) (by kernel_rfl) (fun _ _ _ h => h) Sx (Or.inl ⟨by rfl, fun w' h => (by dsimp only at h; go_simp)⟩) (fun _ => by rfl) ?_
      simp only [Act.put, List.setIfInBounds_toArray, List.set_cons_zero, List.set_cons_succ]
      refine AnyF.takeD (i := 2) (d := 24) (.slice (some A) o.length oc) rfl rfl rfl (by kernel_rfl) (by kernel_rfl) (by kernel_rfl) (by kernel_rfl) (by kernel_rfl) (fun _ _ _ h => h) Sx (Or.inl ⟨by rfl, fun w' h => (by dsimp only at h; go_simp)⟩) (fun _ => by rfl) ?_
      simp only [Act.put, List.setIfInBounds_toArray, List.set_cons_zero, List.set_cons_succ]
      refine AnyF.takeD (i := 3) (d := 25) (.agg #[.int .i64 b2, .slice a2 l2.length c2]) rfl rfl rfl (by kernel_rfl) (by kernel_rfl) (by kernel_rfl) (by kernel_rfl) (by kernel_rfl) (fun _ _ _ h => h) Sx (Or.inl ⟨by rfl, fun w' h => (by dsimp only at h; go_simp)⟩) (fun _ => by rfl) ?_
      simp only [Act.put, List.setIfInBounds_toArray, List.set_cons_zero, List.set_cons_succ]
      refine AnyF.one (i := 4) rfl (by kernel_rfl) (fun K1 hK1 => ?_)
      go_simp
      refine ⟨trivial, ?_⟩
      refine (callsIn_wide.2 (Sab.out _ E1dx)).mono ?_
      rintro e vx1 ⟨rfl, hbx1⟩
      have Ex1 := E1dx.trans (hbx1.mono E1dx.size)
      have Sx1 := HC.out _ Ex1
      refine hK1.out _ _ (fun _ => Sx1) ?_
      clear hK1 K1 hbx1 E1dx Sx
      refine AnyF.takeD (i := 5) (d := 27) (.bool false) rfl rfl rfl (by kernel_rfl) (by kernel_rfl) (by kernel_rfl) (by kernel_rfl) (by kernel_rfl) (fun _ _ _ h => h) Sx1 (Or.inl ⟨by rfl, fun w' h => (by dsimp only at h; go_simp)⟩) (fun _ => by rfl) ?_
      simp only [Act.put, List.setIfInBounds_toArray, List.set_cons_zero, List.set_cons_succ]
      refine AnyF.takeD (i := 6) (d := 28) (.bool false) rfl rfl rfl (by kernel_rfl) (by kernel_rfl) (by kernel_rfl) (by kernel_rfl) (by kernel_rfl) (fun _ _ _ h => h) Sx1 (Or.inl ⟨by rfl, fun w' h => (by dsimp only at h; go_simp)⟩) (fun _ => by rfl) ?_
      simp only [Act.put, List.setIfInBounds_toArray, List.set_cons_zero, List.set_cons_succ]
      refine AnyF.takeD (i := 7) (d := 29) (.agg #[.int .i64 b1, .slice a1 l1.length c1]) rfl rfl rfl (by kernel_rfl) (by kernel_rfl) (by kernel_rfl) (by kernel_rfl) (by kernel_rfl) (fun _ _ _ h => h) Sx1 (Or.inl ⟨by rfl, fun w' h => (by dsimp only at h; go_simp)⟩) (fun _ => by rfl) ?_
      simp only [Act.put, List.setIfInBounds_toArray, List.set_cons_zero, List.set_cons_succ]
      refine AnyF.takeD (i := 8) (d := 30) (.agg #[.int .i64 b2, .slice a2 l2.length c2]) rfl rfl rfl (by kernel_rfl) (by kernel_rfl) (by kernel_rfl) (by kernel_rfl) (by kernel_rfl) (fun _ _ _ h => h) Sx1 (Or.inl ⟨by rfl, fun w' h => (by dsimp only at h; go_simp)⟩) (fun _ => by rfl) ?_
      simp only [Act.put, List.setIfInBounds_toArray, List.set_cons_zero, List.set_cons_succ]
      refine AnyF.takeD (i := 10) (d := 32) (.agg #[.int .i64 b1, .slice a1 l1.length c1]) rfl rfl rfl (by kernel_rfl) (by kernel_rfl) (by kernel_rfl) (by kernel_rfl) (by kernel_rfl) (fun _ _ _ h => h) Sx1 (Or.inl ⟨by rfl, fun w' h => (by dsimp only at h; go_simp)⟩) (fun _ => by rfl) ?_
      simp only [Act.put, List.setIfInBounds_toArray, List.set_cons_zero, List.set_cons_succ]
      refine AnyF.takeD (i := 11) (d := 33) (.agg #[.int .i64 b2, .slice a2 l2.length c2]) rfl rfl rfl (by kernel_rfl) (by kernel_rfl) (by kernel_rfl) (by kernel_rfl) (by kernel_rfl) (fun _ _ _ h => h) Sx1 (Or.inl ⟨by rfl, fun w' h => (by dsimp only at h; go_simp)⟩) (fun _ => by rfl) ?_
      simp only [Act.put, List.setIfInBounds_toArray, List.set_cons_zero, List.set_cons_succ]
      refine AnyF.one (i := 9) rfl (by kernel_rfl) (fun K1 hK1 => ?_)
      go_simp
      refine ⟨trivial, ?_⟩
      refine (callsIn_wide.2 (Nab.out _ Ex1)).mono ?_
      rintro e vx2 ⟨rfl, hbx2⟩
      have Ex2 := Ex1.trans (hbx2.mono Ex1.size)
      have Sx2 := HC.out _ Ex2
      refine hK1.out _ _ (fun _ => Sx2) ?_
      clear hK1 K1 hbx2 Ex1 Sx1
      refine AnyF.one (i := 12) rfl (by kernel_rfl) (fun K1 hK1 => ?_)
      go_simp
      refine ⟨trivial, ?_⟩
      refine (callsIn_wide.2 (Lab.out _ Ex2)).mono ?_
      rintro e vx3 ⟨rfl, hbx3⟩
      have Ex3 := Ex2.trans (hbx3.mono Ex2.size)
      have Sx3 := HC.out _ Ex3
      refine hK1.out _ _ (fun _ => Sx3) ?_
      clear hK1 K1 hbx3 Ex2 Sx2
      refine AnyF.takeD (i := 13) (d := 35) (.bool false) rfl rfl rfl (by kernel_rfl) (by kernel_rfl) (by kernel_rfl) (by kernel_rfl) (by kernel_rfl) (fun _ _ _ h => h) Sx3 (Or.inl ⟨by rfl, fun w' h => (by dsimp only at h; go_simp)⟩) (fun _ => by rfl) ?_
      simp only [Act.put, List.setIfInBounds_toArray, List.set_cons_zero, List.set_cons_succ]
      refine AnyF.takeD (i := 14) (d := 36) (.bool false) rfl rfl rfl (by kernel_rfl) (by kernel_rfl) (by kernel_rfl) (by kernel_rfl) (by kernel_rfl) (fun _ _ _ h => h) Sx3 (Or.inl ⟨by rfl, fun w' h => (by dsimp only at h; go_simp)⟩) (fun _ => by rfl) ?_
      simp only [Act.put, List.setIfInBounds_toArray, List.set_cons_zero, List.set_cons_succ]
      refine AnyF.takeD (i := 15) (d := 37) (.bool false) rfl rfl rfl (by kernel_rfl) (by kernel_rfl) (by kernel_rfl) (by kernel_rfl) (by kernel_rfl) (fun _ _ _ h => h) Sx3 (Or.inl ⟨by rfl, fun w' h => (by dsimp only at h; go_simp)⟩) (fun _ => by rfl) ?_
      simp only [Act.put, List.setIfInBounds_toArray, List.set_cons_zero, List.set_cons_succ]
      refine AnyF.takeD (i := 16) (d := 38) (.agg #[.int .i64 b1, .slice a1 l1.length c1]) rfl rfl rfl (by kernel_rfl) (by kernel_rfl) (by kernel_rfl) (by kernel_rfl) (by kernel_rfl) (fun _ _ _ h => h) Sx3 (Or.inl ⟨by rfl, fun w' h => (by dsimp only at h; go_simp)⟩) (fun _ => by rfl) ?_
      simp only [Act.put, List.setIfInBounds_toArray, List.set_cons_zero, List.set_cons_succ]
      refine AnyF.takeD (i := 17) (d := 39) (.agg #[.int .i64 b2, .slice a2 l2.length c2]) rfl rfl rfl (by kernel_rfl) (by kernel_rfl) (by kernel_rfl) (by kernel_rfl) (by kernel_rfl) (fun _ _ _ h => h) Sx3 (Or.inl ⟨by rfl, fun w' h => (by dsimp only at h; go_simp)⟩) (fun _ => by rfl) ?_
      simp only [Act.put, List.setIfInBounds_toArray, List.set_cons_zero, List.set_cons_succ]
      refine AnyF.one (i := 18) rfl (by kernel_rfl) (fun K1 hK1 => ?_)
      go_simp
      refine ⟨trivial, ?_⟩
      refine (callsIn_wide.2 (Nab.out _ Ex3)).mono ?_
      rintro e vx4 ⟨rfl, hbx4⟩
      have Ex4 := Ex3.trans (hbx4.mono Ex3.size)
      have Sx4 := HC.out _ Ex4
      refine hK1.out _ _ (fun _ => Sx4) ?_
      clear hK1 K1 hbx4 Ex3 Sx3
      refine AnyF.takeD (i := 19) (d := 41) (.bool true) rfl rfl rfl (by kernel_rfl) (by kernel_rfl) (by kernel_rfl) (by kernel_rfl) (by kernel_rfl) (fun _ _ _ h => h) Sx4 (Or.inl ⟨by rfl, fun w' h => (by dsimp only at h; go_simp)⟩) (fun _ => by rfl) ?_
      simp only [Act.put, List.setIfInBounds_toArray, List.set_cons_zero, List.set_cons_succ]
      refine AnyF.takeD (i := 20) (d := 42) (.bool true) rfl rfl rfl (by kernel_rfl) (by kernel_rfl) (by kernel_rfl) (by kernel_rfl) (by kernel_rfl) (fun _ _ _ h => h) Sx4 (Or.inl ⟨by rfl, fun w' h => (by dsimp only at h; go_simp)⟩) (fun _ => by rfl) ?_
      simp only [Act.put, List.setIfInBounds_toArray, List.set_cons_zero, List.set_cons_succ]
      refine AnyF.takeD (i := 21) (d := 43) (.bool false) rfl rfl rfl (by kernel_rfl) (by kernel_rfl) (by kernel_rfl) (by kernel_rfl) (by kernel_rfl) (fun _ _ _ h => h) Sx4 (Or.inl ⟨by rfl, fun w' h => (by dsimp only at h; go_simp)⟩) (fun _ => by rfl) ?_
      simp only [Act.put, List.setIfInBounds_toArray, List.set_cons_zero, List.set_cons_succ]
      refine AnyF.takeD (i := 22) (d := 44) (.bool false) rfl rfl rfl (by kernel_rfl) (by kernel_rfl) (by kernel_rfl) (by kernel_rfl) (by kernel_rfl) (fun _ _ _ h => h) Sx4 (Or.inl ⟨by rfl, fun w' h => (by dsimp only at h; go_simp)⟩) (fun _ => by rfl) ?_
      simp only [Act.put, List.setIfInBounds_toArray, List.set_cons_zero, List.set_cons_succ]
      refine AnyF.takeD (i := 23) (d := 45) (.bool false) rfl rfl rfl (by kernel_rfl) (by kernel_rfl) (by kernel_rfl) (by kernel_rfl) (by kernel_rfl) (fun _ _ _ h => h) Sx4 (Or.inl ⟨by rfl, fun w' h => (by dsimp only at h; go_simp)⟩) (fun _ => by rfl) ?_
      simp only [Act.put, List.setIfInBounds_toArray, List.set_cons_zero, List.set_cons_succ]
      refine AnyF.done (by kernel_rfl) ?_
      have S9 := Sx4
      obtain ⟨z1, z2, z3, z4, z5, z6⟩ := S9
      clear Sx4
      go_wp2_with fail
      refine (Cbc.out _ Ex4).mono ?_
      rintro e V2 ⟨rfl, h2⟩
      have E9 := Ex4.trans (h2.mono Ex4.size)
      clear h2 z1 z2 z3 z4 z5 z6
      obtain ⟨z1, z2, z3, z4, z5, z6⟩ := HC.out _ E9
      cases r with
      | false =>
        go_wp2
        go_ret
        exact ⟨rfl, EV.trans (E9.mono EV.size)⟩
      | true =>
        obtain rfl : s = true := H2.out (by simp) (by simp)
        go_wp2_with fail
        refine (Cac.out _ E9).mono ?_
        rintro e V3 ⟨rfl, h3⟩
        have E8 := E9.trans (h3.mono E9.size)
        clear h3 z1 z2 z3 z4 z5 z6
        go_wp2
        go_ret
        exact ⟨rfl, EV.trans (E8.mono EV.size)⟩
    | false =>
      cases p with
      | true =>
        go_wp2_with fail
        refine (wpIn_wide (n := 3)).1 ?_
        refine AnyF.region (fun w' => w'.cell? ⟨PA, 0, none⟩ = some (.int .i64 b1) ∧ w'.cell? ⟨PA, 1, none⟩ = some (.slice a1 l1.length c1) ∧ w'.cell? ⟨PB, 0, none⟩ = some (.int .i64 b2) ∧ w'.cell? ⟨PB, 1, none⟩ = some (.slice a2 l2.length c2) ∧ w'.cell? ⟨PC, 0, none⟩ = some (.int .i64 b3) ∧ w'.cell? ⟨PC, 1, none⟩ = some (.slice a3 l3.length c3)) [] hmixed ?_
        have E1dx := E1.drew
        have Sx := HC.out _ E1dx
        refine AnyF.takeD (i := 0) (d := 22) (.bool true) rfl rfl rfl (by kernel_rfl) (by kernel_rfl) (by kernel_rfl) (by kernel_rfl) (by kernel_rfl) (fun _ _ _ h => h) Sx (Or.inl ⟨by rfl, fun w' h => (by dsimp only at h; go_simp)⟩) (fun _ => by rfl) ?_
        simp only [Act.put, List.setIfInBounds_toArray, List.set_cons_zero, List.set_cons_succ]
        refine AnyF.takeD (i := 1) (d := 23) (.agg #[.int .i64 b1, .slice a1 l1.length c1]) rfl rfl rfl (by kernel_rfl) (by kernel_rfl) (by kernel_rfl) (by kernel_rfl) (by kernel_rfl) (fun _ _ _ h => h) Sx (Or.inl ⟨by rfl, fun w' h => (by dsimp only at h; go_simp)⟩) (fun _ => by rfl) ?_
        simp only [Act.put, List.setIfInBounds_toArray, List.set_cons_zero, List.set_cons_succ]
        refine AnyF.takeD (i := 2) (d := 24) (.slice (some A) o.length oc) rfl rfl rfl (by kernel_rfl) (by kernel_rfl) (by kernel_rfl) (by kernel_rfl) (by kernel_rfl) (fun _ _ _ h => h) Sx (Or.inl ⟨by rfl, fun w' h => (by dsimp only at h; go_simp)⟩) (fun _ => by rfl) ?_
        simp only [Act.put, List.setIfInBounds_toArray, List.set_cons_zero, List.set_cons_succ]
        refine AnyF.takeD (i := 3) (d := 25) (.agg #[.int .i64 b2, .slice a2 l2.length c2]) rfl rfl rfl (by kernel_rfl) (by kernel_rfl) (by kernel_rfl) (by kernel_rfl) (by kernel_rfl) (fun _ _ _ h => h) Sx (Or.inl ⟨by rfl, fun w' h => (by dsimp only at h; go_simp)⟩) (fun _ => by rfl) ?_
        simp only [Act.put, List.setIfInBounds_toArray, List.set_cons_zero, List.set_cons_succ]
        refine AnyF.one (i := 4) rfl (by kernel_rfl) (fun K1 hK1 => ?_)
        go_simp
        refine ⟨trivial, ?_⟩
        refine (callsIn_wide.2 (Sab.out _ E1dx)).mono ?_
        rintro e vx1 ⟨rfl, hbx1⟩
        have Ex1 := E1dx.trans (hbx1.mono E1dx.size)
        have Sx1 := HC.out _ Ex1
        refine hK1.out _ _ (fun _ => Sx1) ?_
        clear hK1 K1 hbx1 E1dx Sx
        refine AnyF.takeD (i := 5) (d := 27) (.bool false) rfl rfl rfl (by kernel_rfl) (by kernel_rfl) (by kernel_rfl) (by kernel_rfl) (by kernel_rfl) (fun _ _ _ h => h) Sx1 (Or.inl ⟨by rfl, fun w' h => (by dsimp only at h; go_simp)⟩) (fun _ => by rfl) ?_
        simp only [Act.put, List.setIfInBounds_toArray, List.set_cons_zero, List.set_cons_succ]
        refine AnyF.takeD (i := 6) (d := 28) (.bool false) rfl rfl rfl (by kernel_rfl) (by kernel_rfl) (by kernel_rfl) (by kernel_rfl) (by kernel_rfl) (fun _ _ _ h => h) Sx1 (Or.inl ⟨by rfl, fun w' h => (by dsimp only at h; go_simp)⟩) (fun _ => by rfl) ?_
        simp only [Act.put, List.setIfInBounds_toArray, List.set_cons_zero, List.set_cons_succ]
        refine AnyF.takeD (i := 7) (d := 29) (.agg #[.int .i64 b1, .slice a1 l1.length c1]) rfl rfl rfl (by kernel_rfl) (by kernel_rfl) (by kernel_rfl) (by kernel_rfl) (by kernel_rfl) (fun _ _ _ h => h) Sx1 (Or.inl ⟨by rfl, fun w' h => (by dsimp only at h; go_simp)⟩) (fun _ => by rfl) ?_
        simp only [Act.put, List.setIfInBounds_toArray, List.set_cons_zero, List.set_cons_succ]
        refine AnyF.takeD (i := 8) (d := 30) (.agg #[.int .i64 b2, .slice a2 l2.length c2]) rfl rfl rfl (by kernel_rfl) (by kernel_rfl) (by kernel_rfl) (by kernel_rfl) (by kernel_rfl) (fun _ _ _ h => h) Sx1 (Or.inl ⟨by rfl, fun w' h => (by dsimp only at h; go_simp)⟩) (fun _ => by rfl) ?_
        simp only [Act.put, List.setIfInBounds_toArray, List.set_cons_zero, List.set_cons_succ]
        refine AnyF.takeD (i := 10) (d := 32) (.agg #[.int .i64 b1, .slice a1 l1.length c1]) rfl rfl rfl (by kernel_rfl) (by kernel_rfl) (by kernel_rfl) (by kernel_rfl) (by kernel_rfl) (fun _ _ _ h => h) Sx1 (Or.inl ⟨by rfl, fun w' h => (by dsimp only at h; go_simp)⟩) (fun _ => by rfl) ?_
        simp only [Act.put, List.setIfInBounds_toArray, List.set_cons_zero, List.set_cons_succ]
        refine AnyF.takeD (i := 11) (d := 33) (.agg #[.int .i64 b2, .slice a2 l2.length c2]) rfl rfl rfl (by kernel_rfl) (by kernel_rfl) (by kernel_rfl) (by kernel_rfl) (by kernel_rfl) (fun _ _ _ h => h) Sx1 (Or.inl ⟨by rfl, fun w' h => (by dsimp only at h; go_simp)⟩) (fun _ => by rfl) ?_
        simp only [Act.put, List.setIfInBounds_toArray, List.set_cons_zero, List.set_cons_succ]
        refine AnyF.one (i := 9) rfl (by kernel_rfl) (fun K1 hK1 => ?_)
        go_simp
        refine ⟨trivial, ?_⟩
        refine (callsIn_wide.2 (Nab.out _ Ex1)).mono ?_
        rintro e vx2 ⟨rfl, hbx2⟩
        have Ex2 := Ex1.trans (hbx2.mono Ex1.size)
        have Sx2 := HC.out _ Ex2
        refine hK1.out _ _ (fun _ => Sx2) ?_
        clear hK1 K1 hbx2 Ex1 Sx1
        refine AnyF.one (i := 12) rfl (by kernel_rfl) (fun K1 hK1 => ?_)
        go_simp
        refine ⟨trivial, ?_⟩
        refine (callsIn_wide.2 (Lab.out _ Ex2)).mono ?_
        rintro e vx3 ⟨rfl, hbx3⟩
        have Ex3 := Ex2.trans (hbx3.mono Ex2.size)
        have Sx3 := HC.out _ Ex3
        refine hK1.out _ _ (fun _ => Sx3) ?_
        clear hK1 K1 hbx3 Ex2 Sx2
        refine AnyF.takeD (i := 13) (d := 35) (.bool false) rfl rfl rfl (by kernel_rfl) (by kernel_rfl) (by kernel_rfl) (by kernel_rfl) (by kernel_rfl) (fun _ _ _ h => h) Sx3 (Or.inl ⟨by rfl, fun w' h => (by dsimp only at h; go_simp)⟩) (fun _ => by rfl) ?_
        simp only [Act.put, List.setIfInBounds_toArray, List.set_cons_zero, List.set_cons_succ]
        refine AnyF.takeD (i := 14) (d := 36) (.bool false) rfl rfl rfl (by kernel_rfl) (by kernel_rfl) (by kernel_rfl) (by kernel_rfl) (by kernel_rfl) (fun _ _ _ h => h) Sx3 (Or.inl ⟨by rfl, fun w' h => (by dsimp only at h; go_simp)⟩) (fun _ => by rfl) ?_
        simp only [Act.put, List.setIfInBounds_toArray, List.set_cons_zero, List.set_cons_succ]
        refine AnyF.takeD (i := 15) (d := 37) (.bool false) rfl rfl rfl (by kernel_rfl) (by kernel_rfl) (by kernel_rfl) (by kernel_rfl) (by kernel_rfl) (fun _ _ _ h => h) Sx3 (Or.inl ⟨by rfl, fun w' h => (by dsimp only at h; go_simp)⟩) (fun _ => by rfl) ?_
        simp only [Act.put, List.setIfInBounds_toArray, List.set_cons_zero, List.set_cons_succ]
        refine AnyF.takeD (i := 16) (d := 38) (.agg #[.int .i64 b1, .slice a1 l1.length c1]) rfl rfl rfl (by kernel_rfl) (by kernel_rfl) (by kernel_rfl) (by kernel_rfl) (by kernel_rfl) (fun _ _ _ h => h) Sx3 (Or.inl ⟨by rfl, fun w' h => (by dsimp only at h; go_simp)⟩) (fun _ => by rfl) ?_
        simp only [Act.put, List.setIfInBounds_toArray, List.set_cons_zero, List.set_cons_succ]
        refine AnyF.takeD (i := 17) (d := 39) (.agg #[.int .i64 b2, .slice a2 l2.length c2]) rfl rfl rfl (by kernel_rfl) (by kernel_rfl) (by kernel_rfl) (by kernel_rfl) (by kernel_rfl) (fun _ _ _ h => h) Sx3 (Or.inl ⟨by rfl, fun w' h => (by dsimp only at h; go_simp)⟩) (fun _ => by rfl) ?_
        simp only [Act.put, List.setIfInBounds_toArray, List.set_cons_zero, List.set_cons_succ]
        refine AnyF.one (i := 18) rfl (by kernel_rfl) (fun K1 hK1 => ?_)
        go_simp
        refine ⟨trivial, ?_⟩
        refine (callsIn_wide.2 (Nab.out _ Ex3)).mono ?_
        rintro e vx4 ⟨rfl, hbx4⟩
        have Ex4 := Ex3.trans (hbx4.mono Ex3.size)
        have Sx4 := HC.out _ Ex4
        refine hK1.out _ _ (fun _ => Sx4) ?_
        clear hK1 K1 hbx4 Ex3 Sx3
        refine AnyF.takeD (i := 19) (d := 41) (.bool false) rfl rfl rfl (by kernel_rfl) (by kernel_rfl) (by kernel_rfl) (by kernel_rfl) (by kernel_rfl) (fun _ _ _ h => h) Sx4 (Or.inl ⟨by rfl, fun w' h => (by dsimp only at h; go_simp)⟩) (fun _ => by rfl) ?_
        simp only [Act.put, List.setIfInBounds_toArray, List.set_cons_zero, List.set_cons_succ]
        refine AnyF.skip (i := 20) (d := 42) rfl rfl rfl (by kernel_rfl) (by kernel_rfl) (by kernel_rfl) (by kernel_rfl) (by kernel_rfl) (fun _ _ _ h => h) Sx4 (by rfl) (fun _ => by rfl) ?_
        simp only [Act.put, List.setIfInBounds_toArray, List.set_cons_zero, List.set_cons_succ]
        refine AnyF.skip (i := 21) (d := 43) rfl rfl rfl (by kernel_rfl) (by kernel_rfl) (by kernel_rfl) (by kernel_rfl) (by kernel_rfl) (fun _ _ _ h => h) Sx4 (by rfl) (fun _ => by rfl) ?_
        simp only [Act.put, List.setIfInBounds_toArray, List.set_cons_zero, List.set_cons_succ]
        refine AnyF.takeD (i := 22) (d := 44) (.bool false) rfl rfl rfl (by kernel_rfl) (by kernel_rfl) (by kernel_rfl) (by kernel_rfl) (by kernel_rfl) (fun _ _ _ h => h) Sx4 (Or.inl ⟨by rfl, fun w' h => (by dsimp only at h; go_simp)⟩) (fun _ => by rfl) ?_
        simp only [Act.put, List.setIfInBounds_toArray, List.set_cons_zero, List.set_cons_succ]
        refine AnyF.takeD (i := 23) (d := 45) (.bool false) rfl rfl rfl (by kernel_rfl) (by kernel_rfl) (by kernel_rfl) (by kernel_rfl) (by kernel_rfl) (fun _ _ _ h => h) Sx4 (Or.inl ⟨by rfl, fun w' h => (by dsimp only at h; go_simp)⟩) (fun _ => by rfl) ?_
        simp only [Act.put, List.setIfInBounds_toArray, List.set_cons_zero, List.set_cons_succ]
        refine AnyF.done (by kernel_rfl) ?_
        have S9 := Sx4
        obtain ⟨z1, z2, z3, z4, z5, z6⟩ := S9
        clear Sx4
        go_wp2_with fail
        refine (Cbc.out _ Ex4).mono ?_
        rintro e V2 ⟨rfl, h2⟩
        have E9 := Ex4.trans (h2.mono Ex4.size)
        clear h2 z1 z2 z3 z4 z5 z6
        obtain ⟨z1, z2, z3, z4, z5, z6⟩ := HC.out _ E9
        cases r with
        | false =>
          go_wp2
          go_ret
          exact ⟨rfl, EV.trans (E9.mono EV.size)⟩
        | true =>
          obtain rfl : s = true := H2.out (by simp) (by simp)
          go_wp2_with fail
          refine (Cac.out _ E9).mono ?_
          rintro e V3 ⟨rfl, h3⟩
          have E8 := E9.trans (h3.mono E9.size)
          clear h3 z1 z2 z3 z4 z5 z6
          go_wp2
          go_ret
          exact ⟨rfl, EV.trans (E8.mono EV.size)⟩
      | false =>
        go_wp2_with fail
        refine (wpIn_wide (n := 3)).1 ?_
        refine AnyF.region (fun w' => w'.cell? ⟨PA, 0, none⟩ = some (.int .i64 b1) ∧ w'.cell? ⟨PA, 1, none⟩ = some (.slice a1 l1.length c1) ∧ w'.cell? ⟨PB, 0, none⟩ = some (.int .i64 b2) ∧ w'.cell? ⟨PB, 1, none⟩ = some (.slice a2 l2.length c2) ∧ w'.cell? ⟨PC, 0, none⟩ = some (.int .i64 b3) ∧ w'.cell? ⟨PC, 1, none⟩ = some (.slice a3 l3.length c3)) [] hmixed ?_
        have E1dx := E1.drew
        have Sx := HC.out _ E1dx
        refine AnyF.takeD (i := 0) (d := 22) (.bool false) rfl rfl rfl (by kernel_rfl) (by kernel_rfl) (by kernel_rfl) (by kernel_rfl) (by kernel_rfl) (fun _ _ _ h => h) Sx (Or.inl ⟨by rfl, fun w' h => (by dsimp only at h; go_simp)⟩) (fun _ => by rfl) ?_
        simp only [Act.put, List.setIfInBounds_toArray, List.set_cons_zero, List.set_cons_succ]
        refine AnyF.takeD (i := 1) (d := 23) (.agg #[.int .i64 b1, .slice a1 l1.length c1]) rfl rfl rfl (by kernel_rfl) (by kernel_rfl) (by kernel_rfl) (by kernel_rfl) (by kernel_rfl) (fun _ _ _ h => h) Sx (Or.inl ⟨by rfl, fun w' h => (by dsimp only at h; go_simp)⟩) (fun _ => by rfl) ?_
        simp only [Act.put, List.setIfInBounds_toArray, List.set_cons_zero, List.set_cons_succ]
        refine AnyF.takeD (i := 2) (d := 24) (.slice (some A) o.length oc) rfl rfl rfl (by kernel_rfl) (by kernel_rfl) (by kernel_rfl) (by kernel_rfl) (by kernel_rfl) (fun _ _ _ h => h) Sx (Or.inl ⟨by rfl, fun w' h => (by dsimp only at h; go_simp)⟩) (fun _ => by rfl) ?_
        simp only [Act.put, List.setIfInBounds_toArray, List.set_cons_zero, List.set_cons_succ]
        refine AnyF.takeD (i := 3) (d := 25) (.agg #[.int .i64 b2, .slice a2 l2.length c2]) rfl rfl rfl (by kernel_rfl) (by kernel_rfl) (by kernel_rfl) (by kernel_rfl) (by kernel_rfl) (fun _ _ _ h => h) Sx (Or.inl ⟨by rfl, fun w' h => (by dsimp only at h; go_simp)⟩) (fun _ => by rfl) ?_
        simp only [Act.put, List.setIfInBounds_toArray, List.set_cons_zero, List.set_cons_succ]
        refine AnyF.one (i := 4) rfl (by kernel_rfl) (fun K1 hK1 => ?_)
        go_simp
        refine ⟨trivial, ?_⟩
        refine (callsIn_wide.2 (Sab.out _ E1dx)).mono ?_
        rintro e vx1 ⟨rfl, hbx1⟩
        have Ex1 := E1dx.trans (hbx1.mono E1dx.size)
        have Sx1 := HC.out _ Ex1
        refine hK1.out _ _ (fun _ => Sx1) ?_
        clear hK1 K1 hbx1 E1dx Sx
        refine AnyF.takeD (i := 5) (d := 27) (.bool false) rfl rfl rfl (by kernel_rfl) (by kernel_rfl) (by kernel_rfl) (by kernel_rfl) (by kernel_rfl) (fun _ _ _ h => h) Sx1 (Or.inl ⟨by rfl, fun w' h => (by dsimp only at h; go_simp)⟩) (fun _ => by rfl) ?_
        simp only [Act.put, List.setIfInBounds_toArray, List.set_cons_zero, List.set_cons_succ]
        refine AnyF.takeD (i := 6) (d := 28) (.bool false) rfl rfl rfl (by kernel_rfl) (by kernel_rfl) (by kernel_rfl) (by kernel_rfl) (by kernel_rfl) (fun _ _ _ h => h) Sx1 (Or.inl ⟨by rfl, fun w' h => (by dsimp only at h; go_simp)⟩) (fun _ => by rfl) ?_
        simp only [Act.put, List.setIfInBounds_toArray, List.set_cons_zero, List.set_cons_succ]
        refine AnyF.takeD (i := 7) (d := 29) (.agg #[.int .i64 b1, .slice a1 l1.length c1]) rfl rfl rfl (by kernel_rfl) (by kernel_rfl) (by kernel_rfl) (by kernel_rfl) (by kernel_rfl) (fun _ _ _ h => h) Sx1 (Or.inl ⟨by rfl, fun w' h => (by dsimp only at h; go_simp)⟩) (fun _ => by rfl) ?_
        simp only [Act.put, List.setIfInBounds_toArray, List.set_cons_zero, List.set_cons_succ]
        refine AnyF.takeD (i := 8) (d := 30) (.agg #[.int .i64 b2, .slice a2 l2.length c2]) rfl rfl rfl (by kernel_rfl) (by kernel_rfl) (by kernel_rfl) (by kernel_rfl) (by kernel_rfl) (fun _ _ _ h => h) Sx1 (Or.inl ⟨by rfl, fun w' h => (by dsimp only at h; go_simp)⟩) (fun _ => by rfl) ?_
        simp only [Act.put, List.setIfInBounds_toArray, List.set_cons_zero, List.set_cons_succ]
        refine AnyF.takeD (i := 10) (d := 32) (.agg #[.int .i64 b1, .slice a1 l1.length c1]) rfl rfl rfl (by kernel_rfl) (by kernel_rfl) (by kernel_rfl) (by kernel_rfl) (by kernel_rfl) (fun _ _ _ h => h) Sx1 (Or.inl ⟨by rfl, fun w' h => (by dsimp only at h; go_simp)⟩) (fun _ => by rfl) ?_
        simp only [Act.put, List.setIfInBounds_toArray, List.set_cons_zero, List.set_cons_succ]
        refine AnyF.takeD (i := 11) (d := 33) (.agg #[.int .i64 b2, .slice a2 l2.length c2]) rfl rfl rfl (by kernel_rfl) (by kernel_rfl) (by kernel_rfl) (by kernel_rfl) (by kernel_rfl) (fun _ _ _ h => h) Sx1 (Or.inl ⟨by rfl, fun w' h => (by dsimp only at h; go_simp)⟩) (fun _ => by rfl) ?_
        simp only [Act.put, List.setIfInBounds_toArray, List.set_cons_zero, List.set_cons_succ]
        refine AnyF.one (i := 9) rfl (by kernel_rfl) (fun K1 hK1 => ?_)
        go_simp
        refine ⟨trivial, ?_⟩
        refine (callsIn_wide.2 (Nab.out _ Ex1)).mono ?_
        rintro e vx2 ⟨rfl, hbx2⟩
        have Ex2 := Ex1.trans (hbx2.mono Ex1.size)
        have Sx2 := HC.out _ Ex2
        refine hK1.out _ _ (fun _ => Sx2) ?_
        clear hK1 K1 hbx2 Ex1 Sx1
        refine AnyF.one (i := 12) rfl (by kernel_rfl) (fun K1 hK1 => ?_)
        go_simp
        refine ⟨trivial, ?_⟩
        refine (callsIn_wide.2 (Lab.out _ Ex2)).mono ?_
        rintro e vx3 ⟨rfl, hbx3⟩
        have Ex3 := Ex2.trans (hbx3.mono Ex2.size)
        have Sx3 := HC.out _ Ex3
        refine hK1.out _ _ (fun _ => Sx3) ?_
        clear hK1 K1 hbx3 Ex2 Sx2
        refine AnyF.takeD (i := 13) (d := 35) (.bool false) rfl rfl rfl (by kernel_rfl) (by kernel_rfl) (by kernel_rfl) (by kernel_rfl) (by kernel_rfl) (fun _ _ _ h => h) Sx3 (Or.inl ⟨by rfl, fun w' h => (by dsimp only at h; go_simp)⟩) (fun _ => by rfl) ?_
        simp only [Act.put, List.setIfInBounds_toArray, List.set_cons_zero, List.set_cons_succ]
        refine AnyF.takeD (i := 14) (d := 36) (.bool false) rfl rfl rfl (by kernel_rfl) (by kernel_rfl) (by kernel_rfl) (by kernel_rfl) (by kernel_rfl) (fun _ _ _ h => h) Sx3 (Or.inl ⟨by rfl, fun w' h => (by dsimp only at h; go_simp)⟩) (fun _ => by rfl) ?_
        simp only [Act.put, List.setIfInBounds_toArray, List.set_cons_zero, List.set_cons_succ]
        refine AnyF.takeD (i := 15) (d := 37) (.bool false) rfl rfl rfl (by kernel_rfl) (by kernel_rfl) (by kernel_rfl) (by kernel_rfl) (by kernel_rfl) (fun _ _ _ h => h) Sx3 (Or.inl ⟨by rfl, fun w' h => (by dsimp only at h; go_simp)⟩) (fun _ => by rfl) ?_
        simp only [Act.put, List.setIfInBounds_toArray, List.set_cons_zero, List.set_cons_succ]
        refine AnyF.takeD (i := 16) (d := 38) (.agg #[.int .i64 b1, .slice a1 l1.length c1]) rfl rfl rfl (by kernel_rfl) (by kernel_rfl) (by kernel_rfl) (by kernel_rfl) (by kernel_rfl) (fun _ _ _ h => h) Sx3 (Or.inl ⟨by rfl, fun w' h => (by dsimp only at h; go_simp)⟩) (fun _ => by rfl) ?_
        simp only [Act.put, List.setIfInBounds_toArray, List.set_cons_zero, List.set_cons_succ]
        refine AnyF.takeD (i := 17) (d := 39) (.agg #[.int .i64 b2, .slice a2 l2.length c2]) rfl rfl rfl (by kernel_rfl) (by kernel_rfl) (by kernel_rfl) (by kernel_rfl) (by kernel_rfl) (fun _ _ _ h => h) Sx3 (Or.inl ⟨by rfl, fun w' h => (by dsimp only at h; go_simp)⟩) (fun _ => by rfl) ?_
        simp only [Act.put, List.setIfInBounds_toArray, List.set_cons_zero, List.set_cons_succ]
        refine AnyF.one (i := 18) rfl (by kernel_rfl) (fun K1 hK1 => ?_)
        go_simp
        refine ⟨trivial, ?_⟩
        refine (callsIn_wide.2 (Nab.out _ Ex3)).mono ?_
        rintro e vx4 ⟨rfl, hbx4⟩
        have Ex4 := Ex3.trans (hbx4.mono Ex3.size)
        have Sx4 := HC.out _ Ex4
        refine hK1.out _ _ (fun _ => Sx4) ?_
        clear hK1 K1 hbx4 Ex3 Sx3
        refine AnyF.takeD (i := 19) (d := 41) (.bool false) rfl rfl rfl (by kernel_rfl) (by kernel_rfl) (by kernel_rfl) (by kernel_rfl) (by kernel_rfl) (fun _ _ _ h => h) Sx4 (Or.inl ⟨by rfl, fun w' h => (by dsimp only at h; go_simp)⟩) (fun _ => by rfl) ?_
        simp only [Act.put, List.setIfInBounds_toArray, List.set_cons_zero, List.set_cons_succ]
        refine AnyF.skip (i := 20) (d := 42) rfl rfl rfl (by kernel_rfl) (by kernel_rfl) (by kernel_rfl) (by kernel_rfl) (by kernel_rfl) (fun _ _ _ h => h) Sx4 (by rfl) (fun _ => by rfl) ?_
        simp only [Act.put, List.setIfInBounds_toArray, List.set_cons_zero, List.set_cons_succ]
        refine AnyF.skip (i := 21) (d := 43) rfl rfl rfl (by kernel_rfl) (by kernel_rfl) (by kernel_rfl) (by kernel_rfl) (by kernel_rfl) (fun _ _ _ h => h) Sx4 (by rfl) (fun _ => by rfl) ?_
        simp only [Act.put, List.setIfInBounds_toArray, List.set_cons_zero, List.set_cons_succ]
        refine AnyF.takeD (i := 22) (d := 44) (.bool false) rfl rfl rfl (by kernel_rfl) (by kernel_rfl) (by kernel_rfl) (by kernel_rfl) (by kernel_rfl) (fun _ _ _ h => h) Sx4 (Or.inl ⟨by rfl, fun w' h => (by dsimp only at h; go_simp)⟩) (fun _ => by rfl) ?_
        simp only [Act.put, List.setIfInBounds_toArray, List.set_cons_zero, List.set_cons_succ]
        refine AnyF.takeD (i := 23) (d := 45) (.bool false) rfl rfl rfl (by kernel_rfl) (by kernel_rfl) (by kernel_rfl) (by kernel_rfl) (by kernel_rfl) (fun _ _ _ h => h) Sx4 (Or.inl ⟨by rfl, fun w' h => (by dsimp only at h; go_simp)⟩) (fun _ => by rfl) ?_
        simp only [Act.put, List.setIfInBounds_toArray, List.set_cons_zero, List.set_cons_succ]
        refine AnyF.done (by kernel_rfl) ?_
        have S9 := Sx4
        obtain ⟨z1, z2, z3, z4, z5, z6⟩ := S9
        clear Sx4
        go_wp2
        go_ret
        exact ⟨rfl, EV.trans (Ex4.mono EV.size)⟩
end Go.Proofs.Ytjolkbcnglhebaa
