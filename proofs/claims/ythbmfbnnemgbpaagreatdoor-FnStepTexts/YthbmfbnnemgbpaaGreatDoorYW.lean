/- FnStepTexts, its walk. -/
import Derived.Test.YthbmfbnnemgbpaaGreatDoorZ0
import Derived.Test.YthbmfbnnemgbpaaGreatDoorZ44
import Derived.Test.YthbmfbnnemgbpaaGreatDoorZ46
import Derived.Test.YthbmfbnnemgbpaaGreatDoorSD
namespace Go.Proofs.YthbmfbnnemgbpaaGreatDoor
open Go Go.RowKit Go.Deep Go.Maps Go.BigFrame Go.Shelf
theorem Two.cats {w w' : World} {a3 a4 : Option Addr} {k3 k4 : Nat} {l1 l2 : List (Int × Int)} (h : Two w w' (.slice a3 l1.length k3) (.slice a4 l2.length k4) l1 l2) : CatsAt w' a3 l1.length (fstAt l1) (sndAt l1) ∧ CatsAt w' a4 l2.length (fstAt l2) (sndAt l2) := by
 obtain ⟨B1, B2, _, _, _, o1, o2⟩ := h
 exact ⟨OwnCats.cats o1, OwnCats.cats o2⟩
set_option maxRecDepth 100000 in
set_option maxHeartbeats 16000000 in
theorem stepTexts_walk (u : TypeId) (pv : Value) (a : Option Addr) (n cap : Nat) (w : World) (hb : BytesAt w a n) (hT : Tab w) (hE : Err u pv w) : Calls Tryz.prog 3 #[.slice a n cap] w fun e w' => e = .returned (.bool true) ∧ Below w.heap.size w w' := by
 by_cases hn : n ≤ 1048576
 ·have hn' : decide (1048576 < n) = false := decide_eq_false (by omega)
  have P0 := hid (drawStep_any a n cap w hn hb)
  have P1 : Hid (∀ W, Below w.heap.size w W → Calls Tryz.prog 11 #[.slice a n cap] W fun e w' => ∃ t : ByteArray, e = .returned (.string t) ∧ t.size ≤ 60010 ∧ Below W.heap.size W w') := fun W h => drawRead_any a n cap W hn (hb.below h)
  have HT : Hid (∀ W, Below w.heap.size w W → Tab W) := fun W h => hT.below h
  have HE : Hid (∀ W, Below w.heap.size w W → Err u pv W) := fun W h => hE.below h
  clear hb hT hE
  go_enter Tryz.func3, Tryz.ntmps3
  go_wp2_with (go_at_call 4; refine (big_any a n cap _).mono ?_; rintro e w1 ⟨rfl, hw1⟩; subst w1)
  refine P0.out.mono ?_
  rintro e w1 ⟨th, kind, id, to', cat, d, bl, a1, l1, k1, bc, a2, l2, k2, rfl, D, c1⟩
  have HD := hid D
  have HC1 := hid c1
  clear P0 D c1
  have HC : Hid ((∀ W, Below w1.heap.size w1 W → CatsAt W a1 l1.length (fstAt l1) (sndAt l1)) ∧ ∀ W, Below w1.heap.size w1 W → CatsAt W a2 l2.length (fstAt l2) (sndAt l2)) := hid ⟨fun W h => HD.out.2.2.2.1.below h, fun W h => HD.out.2.2.2.2.below h⟩
  obtain ⟨X, eX⟩ : ∃ X, X = stepX th kind id to' cat d bl l1 bc l2 := ⟨_, rfl⟩
  have sh : X.size ≤ 60000 := by rw [eX]; exact stepX_short _ _ _ _ _ _ _ _ _ _
  have dm : d.size ≤ maxLen := Nat.le_trans HD.out.2.2.1 (by unfold maxLen; omega)
  have T1 : Hid (∀ W, Below w1.heap.size w1 W → Calls Tryz.prog 6 #[.agg #[.int .i64 th, .int .i64 kind, .int .i64 id, .int .i64 to', .int .i64 cat, .string d, .int .i64 bl, .slice a1 l1.length k1, .int .i64 bc, .slice a2 l2.length k2]] W fun e w' => e = .returned (.string X) ∧ Below W.heap.size W w') := hid (fun W h => by rw [eX]; exact implStepText_any _ _ _ _ _ _ _ _ _ _ _ _ _ _ _ _ _ _ W dm HD.out.1 HD.out.2.1 (HC.out.1 W h) (HC.out.2 W h) (HT.out W (then_ HC1.out h)))
  have T2 : Hid (∀ W, Below w1.heap.size w1 W → Calls Tryz.prog 8 #[.agg #[.int .i64 th, .int .i64 kind, .int .i64 id, .int .i64 to', .int .i64 cat, .string d, .int .i64 bl, .slice a1 l1.length k1, .int .i64 bc, .slice a2 l2.length k2]] W fun e w' => e = .returned (.string X) ∧ Below W.heap.size W w') := hid (fun W h => by rw [eX]; exact specStepText_any _ _ _ _ _ _ _ _ _ _ _ _ _ _ _ _ _ _ W dm HD.out.1 HD.out.2.1 (HC.out.1 W h) (HC.out.2 W h))
  have T4 : Hid (∀ W, Below w1.heap.size w1 W → Calls Tryz.prog 9 #[.agg #[.int .i64 th, .int .i64 kind, .int .i64 id, .int .i64 to', .int .i64 cat, .string d, .int .i64 bl, .slice a1 l1.length k1, .int .i64 bc, .slice a2 l2.length k2]] W fun e w' => e = .returned (.bool (okX th kind id to' cat d bl l1 bc l2)) ∧ Below W.heap.size W w') := hid (fun W h => implStep_any _ _ _ _ _ _ _ _ _ _ _ _ _ _ _ _ _ _ W dm HD.out.1 HD.out.2.1 (HC.out.1 W h) (HC.out.2 W h))
  obtain ⟨r, er⟩ : ∃ r, r = readS X.data.toList := ⟨_, rfl⟩
  have T3 : Hid (∀ W, Below w1.heap.size w1 W → Calls Tryz.prog 7 #[.string X] W fun e w' => ∃ a3 k3 a4 k4, e = .returned (.tuple #[.agg #[.int .i64 r.th, .int .i64 r.kind, .int .i64 r.id, .int .i64 r.to', .int .i64 r.cat, .string r.d, .int .i64 r.b1, .slice a3 r.l1.length k3, .int .i64 r.b2, .slice a4 r.l2.length k4], .bool r.ok]) ∧ Two W w' (.slice a3 r.l1.length k3) (.slice a4 r.l2.length k4) r.l1 r.l2 ∧ Below W.heap.size W w') := hid (fun W h => by
   rw [er]
   exact implReadStep_any u pv X.data.toList W (by rw [← size_data]; omega) (HE.out W (then_ HC1.out h)))
  have ER : Hid (r = readS (stepX th kind id to' cat d bl l1 bc l2).data.toList) := hid (by rw [← eX]; exact er)
  clear er eX sh dm HD
  have d1 : Hid (Below w1.heap.size w1 (w1.alloc (.cells #[.int .i64 th, .int .i64 kind, .int .i64 id, .int .i64 to', .int .i64 cat, .string d, .int .i64 bl, .slice a1 l1.length k1, .int .i64 bc, .slice a2 l2.length k2] 28))) := hid ((Below.refl _ _).alloc (Nat.le_refl _) _)
  have A1 := hid (Blk.new w1 (.cells #[.int .i64 th, .int .i64 kind, .int .i64 id, .int .i64 to', .int .i64 cat, .string d, .int .i64 bl, .slice a1 l1.length k1, .int .i64 bc, .slice a2 l2.length k2] 28))
  obtain ⟨c0, c1, c2, c3, c4, c5, c6, c7, c8, c9⟩ := A1.out.ten
  go_wp2_with fail
  generalize w1.alloc (.cells #[.int .i64 th, .int .i64 kind, .int .i64 id, .int .i64 to', .int .i64 cat, .string d, .int .i64 bl, .slice a1 l1.length k1, .int .i64 bc, .slice a2 l2.length k2] 28) = V1 at *
  refine (T1.out _ d1.out).mono ?_
  rintro e w2 ⟨rfl, h2⟩
  have d2 := hid (then_ d1.out h2)
  have A2 := hid (A1.out.below h2)
  clear h2 d1 A1 c0 c1 c2 c3 c4 c5 c6 c7 c8 c9
  go_wp2_with fail
  refine (T3.out _ d2.out).mono ?_
  rintro e w3 ⟨a3, k3, a4, k4, rfl, tw, h3⟩
  have d3 := hid ((then_ d2.out h3).alloc (then_ d2.out h3).size (.cells #[.int .i64 r.th, .int .i64 r.kind, .int .i64 r.id, .int .i64 r.to', .int .i64 r.cat, .string r.d, .int .i64 r.b1, .slice a3 r.l1.length k3, .int .i64 r.b2, .slice a4 r.l2.length k4] 28))
  have A3 := hid ((A2.out.below h3).alloc (.cells #[.int .i64 r.th, .int .i64 r.kind, .int .i64 r.id, .int .i64 r.to', .int .i64 r.cat, .string r.d, .int .i64 r.b1, .slice a3 r.l1.length k3, .int .i64 r.b2, .slice a4 r.l2.length k4] 28))
  have U3 := hid (Blk.new w3 (.cells #[.int .i64 r.th, .int .i64 r.kind, .int .i64 r.id, .int .i64 r.to', .int .i64 r.cat, .string r.d, .int .i64 r.b1, .slice a3 r.l1.length k3, .int .i64 r.b2, .slice a4 r.l2.length k4] 28))
  have C3 := hid tw.cats
  have bw := hid ((Below.refl _ w3).alloc (Nat.le_refl _) (.cells #[.int .i64 r.th, .int .i64 r.kind, .int .i64 r.id, .int .i64 r.to', .int .i64 r.cat, .string r.d, .int .i64 r.b1, .slice a3 r.l1.length k3, .int .i64 r.b2, .slice a4 r.l2.length k4] 28))
  clear tw h3 d2 A2 T3 T1
  go_upto_region 6 with fail
  generalize w3.alloc (.cells #[.int .i64 r.th, .int .i64 r.kind, .int .i64 r.id, .int .i64 r.to', .int .i64 r.cat, .string r.d, .int .i64 r.b1, .slice a3 r.l1.length k3, .int .i64 r.b2, .slice a4 r.l2.length k4] 28) = V3 at *
  go_cut [93] from 12 (fun v wc => v = .bool false ∧ Below w.heap.size w wc)
  case first =>
   have A := A3.out
   have L := d3.out
   obtain ⟨C3, C4⟩ := C3.out
   replace C3 := C3.below bw.out
   replace C4 := C4.below bw.out
   have U := U3.out
   clear A3 U3 d3 bw P1
   generalize w3.heap.size = PU at *
   refine Seq.region ?_
   cases hp : okX th kind id to' cat d bl l1 bc l2 with
   | true =>
    have e := ER.out.trans (read_again hp)
    have g := step_is _ _ _ _ _ _ _ _ _ _ _ _ _ _ hp
    have h12 : l1.length ≤ 1048576 := by have := (labOk_out g.2.2.2.2.2.2.1).2.1; omega
    have h13 : l2.length ≤ 1048576 := by have := (labOk_out g.2.2.2.2.2.2.2).2.1; omega
    clear g ER
    subst e
    rw [hp] at T4
    simp only at U C3 C4 ⊢
    clear hp
    refine Seq.tk 0 23 (.string X) ?_
    simp only [ap, List.set]
    refine Seq.tk 1 24 (.agg #[.int .i64 th, .int .i64 kind, .int .i64 id, .int .i64 to', .int .i64 cat, .string d, .int .i64 bl, .slice a1 l1.length k1, .int .i64 bc, .slice a2 l2.length k2]) ?_ (hv := by obtain ⟨c0, c1, c2, c3, c4, c5, c6, c7, c8, c9⟩ := A.ten; go_simp)
    simp only [ap, List.set]
    refine Seq.step rfl (fun K1 hK1 => ?_)
    obtain ⟨c0, c1, c2, c3, c4, c5, c6, c7, c8, c9⟩ := A.ten
    go_simp
    refine (T2.out _ L).mono ?_
    rintro e W2 ⟨rfl, hb⟩
    replace A := A.below hb
    replace U := U.below hb
    replace C3 := C3.below hb
    replace C4 := C4.below hb
    replace L := then_ L hb
    clear c0 c1 c2 c3 c4 c5 c6 c7 c8 c9
    refine hK1.out _ _ ?_
    clear hK1 K1 hb
    try simp only [ap, List.set]
    refine Seq.tk 3 26 (.bool false) ?_
    simp only [ap, List.set]
    refine Seq.tk 4 27 (.bool false) ?_
    simp only [ap, List.set]
    refine Seq.tk 5 28 (.bool true) ?_
    simp only [ap, List.set]
    refine Seq.tk 6 29 (.agg #[.int .i64 th, .int .i64 kind, .int .i64 id, .int .i64 to', .int .i64 cat, .string d, .int .i64 bl, .slice a1 l1.length k1, .int .i64 bc, .slice a2 l2.length k2]) ?_ (hv := by obtain ⟨c0, c1, c2, c3, c4, c5, c6, c7, c8, c9⟩ := A.ten; go_simp)
    simp only [ap, List.set]
    refine Seq.step rfl (fun K1 hK1 => ?_)
    obtain ⟨c0, c1, c2, c3, c4, c5, c6, c7, c8, c9⟩ := A.ten
    go_simp
    refine (T4.out _ L).mono ?_
    rintro e W2 ⟨rfl, hb⟩
    replace A := A.below hb
    replace U := U.below hb
    replace C3 := C3.below hb
    replace C4 := C4.below hb
    replace L := then_ L hb
    clear c0 c1 c2 c3 c4 c5 c6 c7 c8 c9
    refine hK1.out _ _ ?_
    clear hK1 K1 hb
    try simp only [ap, List.set]
    refine Seq.tk 8 31 (.bool false) ?_
    simp only [ap, List.set]
    refine Seq.tk 9 32 (.bool false) ?_
    simp only [ap, List.set]
    refine Seq.tk 10 33 (.bool false) ?_
    simp only [ap, List.set]
    refine Seq.tk 11 34 (.bool true) ?_
    simp only [ap, List.set]
    refine Seq.tk 12 35 (.bool true) ?_
    simp only [ap, List.set]
    refine Seq.tk 13 36 (.pointer (some ⟨PU, 0, none⟩)) ?_
    simp only [ap, List.set]
    refine Seq.tk 14 37 (.int .i64 th) ?_ (hv := by obtain ⟨c0, c1, c2, c3, c4, c5, c6, c7, c8, c9⟩ := U.ten; go_simp)
    simp only [ap, List.set]
    refine Seq.tk 15 38 (.pointer (some ⟨w1.heap.size, 0, none⟩)) ?_
    simp only [ap, List.set]
    refine Seq.tk 16 39 (.int .i64 th) ?_ (hv := by obtain ⟨c0, c1, c2, c3, c4, c5, c6, c7, c8, c9⟩ := A.ten; go_simp)
    simp only [ap, List.set]
    refine Seq.tk 17 40 (.bool false) ?_
    simp only [ap, List.set]
    refine Seq.tk 18 41 (.bool false) ?_
    simp only [ap, List.set]
    refine Seq.tk 19 42 (.pointer (some ⟨PU, 1, none⟩)) ?_
    simp only [ap, List.set]
    refine Seq.tk 20 43 (.int .i64 kind) ?_ (hv := by obtain ⟨c0, c1, c2, c3, c4, c5, c6, c7, c8, c9⟩ := U.ten; go_simp)
    simp only [ap, List.set]
    refine Seq.tk 21 44 (.pointer (some ⟨w1.heap.size, 1, none⟩)) ?_
    simp only [ap, List.set]
    refine Seq.tk 22 45 (.int .i64 kind) ?_ (hv := by obtain ⟨c0, c1, c2, c3, c4, c5, c6, c7, c8, c9⟩ := A.ten; go_simp)
    simp only [ap, List.set]
    refine Seq.tk 23 46 (.bool false) ?_
    simp only [ap, List.set]
    refine Seq.tk 24 47 (.bool false) ?_
    simp only [ap, List.set]
    refine Seq.tk 25 48 (.bool false) ?_
    simp only [ap, List.set]
    refine Seq.tk 26 49 (.pointer (some ⟨PU, 2, none⟩)) ?_
    simp only [ap, List.set]
    refine Seq.tk 27 50 (.int .i64 id) ?_ (hv := by obtain ⟨c0, c1, c2, c3, c4, c5, c6, c7, c8, c9⟩ := U.ten; go_simp)
    simp only [ap, List.set]
    refine Seq.tk 28 51 (.pointer (some ⟨w1.heap.size, 2, none⟩)) ?_
    simp only [ap, List.set]
    refine Seq.tk 29 52 (.int .i64 id) ?_ (hv := by obtain ⟨c0, c1, c2, c3, c4, c5, c6, c7, c8, c9⟩ := A.ten; go_simp)
    simp only [ap, List.set]
    refine Seq.tk 30 53 (.bool false) ?_
    simp only [ap, List.set]
    refine Seq.tk 31 54 (.bool false) ?_
    simp only [ap, List.set]
    refine Seq.tk 32 55 (.bool false) ?_
    simp only [ap, List.set]
    refine Seq.tk 33 56 (.pointer (some ⟨PU, 3, none⟩)) ?_
    simp only [ap, List.set]
    refine Seq.tk 34 57 (.int .i64 to') ?_ (hv := by obtain ⟨c0, c1, c2, c3, c4, c5, c6, c7, c8, c9⟩ := U.ten; go_simp)
    simp only [ap, List.set]
    refine Seq.tk 35 58 (.pointer (some ⟨w1.heap.size, 3, none⟩)) ?_
    simp only [ap, List.set]
    refine Seq.tk 36 59 (.int .i64 to') ?_ (hv := by obtain ⟨c0, c1, c2, c3, c4, c5, c6, c7, c8, c9⟩ := A.ten; go_simp)
    simp only [ap, List.set]
    refine Seq.tk 37 60 (.bool false) ?_
    simp only [ap, List.set]
    refine Seq.tk 38 61 (.bool false) ?_
    simp only [ap, List.set]
    refine Seq.tk 39 62 (.bool false) ?_
    simp only [ap, List.set]
    refine Seq.tk 40 63 (.pointer (some ⟨PU, 4, none⟩)) ?_
    simp only [ap, List.set]
    refine Seq.tk 41 64 (.int .i64 cat) ?_ (hv := by obtain ⟨c0, c1, c2, c3, c4, c5, c6, c7, c8, c9⟩ := U.ten; go_simp)
    simp only [ap, List.set]
    refine Seq.tk 42 65 (.pointer (some ⟨w1.heap.size, 4, none⟩)) ?_
    simp only [ap, List.set]
    refine Seq.tk 43 66 (.int .i64 cat) ?_ (hv := by obtain ⟨c0, c1, c2, c3, c4, c5, c6, c7, c8, c9⟩ := A.ten; go_simp)
    simp only [ap, List.set]
    refine Seq.tk 44 67 (.bool false) ?_
    simp only [ap, List.set]
    refine Seq.tk 45 68 (.bool false) ?_
    simp only [ap, List.set]
    refine Seq.tk 46 69 (.bool false) ?_
    simp only [ap, List.set]
    refine Seq.tk 47 70 (.pointer (some ⟨PU, 5, none⟩)) ?_
    simp only [ap, List.set]
    refine Seq.tk 48 71 (.string d) ?_ (hv := by obtain ⟨c0, c1, c2, c3, c4, c5, c6, c7, c8, c9⟩ := U.ten; go_simp)
    simp only [ap, List.set]
    refine Seq.tk 49 72 (.pointer (some ⟨w1.heap.size, 5, none⟩)) ?_
    simp only [ap, List.set]
    refine Seq.tk 50 73 (.string d) ?_ (hv := by obtain ⟨c0, c1, c2, c3, c4, c5, c6, c7, c8, c9⟩ := A.ten; go_simp)
    simp only [ap, List.set]
    refine Seq.tk 51 74 (.bool false) ?_
    simp only [ap, List.set]
    refine Seq.tk 52 75 (.bool false) ?_
    simp only [ap, List.set]
    refine Seq.tk 53 76 (.bool false) ?_
    simp only [ap, List.set]
    refine Seq.tk 54 77 (.pointer (some ⟨PU, 6, none⟩)) ?_
    simp only [ap, List.set]
    refine Seq.tk 55 78 (.agg #[.int .i64 bl, .slice a3 l1.length k3]) ?_ (hv := by obtain ⟨c0, c1, c2, c3, c4, c5, c6, c7, c8, c9⟩ := U.ten; go_simp)
    simp only [ap, List.set]
    refine Seq.tk 56 79 (.pointer (some ⟨w1.heap.size, 6, none⟩)) ?_
    simp only [ap, List.set]
    refine Seq.tk 57 80 (.agg #[.int .i64 bl, .slice a1 l1.length k1]) ?_ (hv := by obtain ⟨c0, c1, c2, c3, c4, c5, c6, c7, c8, c9⟩ := A.ten; go_simp)
    simp only [ap, List.set]
    refine Seq.step rfl (fun K1 hK1 => ?_)
    skip
    go_simp
    refine (same_any bl a3 a1 _ k3 k1 _ _ _ h12 C3 (HC.out.1 _ L)).mono ?_
    rintro e W2 ⟨rfl, hb⟩
    replace A := A.below hb
    replace U := U.below hb
    replace C3 := C3.below hb
    replace C4 := C4.below hb
    replace L := then_ L hb
    refine hK1.out _ _ ?_
    clear hK1 K1 hb
    try simp only [ap, List.set]
    refine Seq.tk 59 82 (.bool false) ?_
    simp only [ap, List.set]
    refine Seq.tk 60 83 (.bool false) ?_
    simp only [ap, List.set]
    refine Seq.tk 61 84 (.bool false) ?_
    simp only [ap, List.set]
    refine Seq.tk 62 85 (.pointer (some ⟨PU, 8, none⟩)) ?_
    simp only [ap, List.set]
    refine Seq.tk 63 86 (.agg #[.int .i64 bc, .slice a4 l2.length k4]) ?_ (hv := by obtain ⟨c0, c1, c2, c3, c4, c5, c6, c7, c8, c9⟩ := U.ten; go_simp)
    simp only [ap, List.set]
    refine Seq.tk 64 87 (.pointer (some ⟨w1.heap.size, 8, none⟩)) ?_
    simp only [ap, List.set]
    refine Seq.tk 65 88 (.agg #[.int .i64 bc, .slice a2 l2.length k2]) ?_ (hv := by obtain ⟨c0, c1, c2, c3, c4, c5, c6, c7, c8, c9⟩ := A.ten; go_simp)
    simp only [ap, List.set]
    refine Seq.step rfl (fun K1 hK1 => ?_)
    skip
    go_simp
    refine (same_any bc a4 a2 _ k4 k2 _ _ _ h13 C4 (HC.out.2 _ L)).mono ?_
    rintro e W2 ⟨rfl, hb⟩
    replace A := A.below hb
    replace U := U.below hb
    replace C3 := C3.below hb
    replace C4 := C4.below hb
    replace L := then_ L hb
    refine hK1.out _ _ ?_
    clear hK1 K1 hb
    try simp only [ap, List.set]
    refine Seq.tk 67 90 (.bool false) ?_
    simp only [ap, List.set]
    refine Seq.tk 68 91 (.bool false) ?_
    simp only [ap, List.set]
    refine Seq.tk 69 92 (.bool false) ?_
    simp only [ap, List.set]
    refine Seq.tk 70 93 (.bool false) ?_
    simp only [ap, List.set]
    refine Seq.done (Nat.le_of_eq (by rfl)) ?_
    go_wp2_with fail
    go_meet
    case rel => exact ⟨rfl, then_ HC1.out L⟩
   | false =>
    have e := ER.out.trans (read_none hp)
    have eo : r.ok = false := by rw [e]; rfl
    clear e ER
    rw [hp] at T4
    clear hp
    generalize r.ok = b at *
    have EO := hid eo
    clear eo
    refine Seq.tk 0 23 (.string X) ?_
    simp only [ap, List.set]
    refine Seq.tk 1 24 (.agg #[.int .i64 th, .int .i64 kind, .int .i64 id, .int .i64 to', .int .i64 cat, .string d, .int .i64 bl, .slice a1 l1.length k1, .int .i64 bc, .slice a2 l2.length k2]) ?_ (hv := by obtain ⟨c0, c1, c2, c3, c4, c5, c6, c7, c8, c9⟩ := A.ten; go_simp)
    simp only [ap, List.set]
    refine Seq.step rfl (fun K1 hK1 => ?_)
    obtain ⟨c0, c1, c2, c3, c4, c5, c6, c7, c8, c9⟩ := A.ten
    go_simp
    refine (T2.out _ L).mono ?_
    rintro e W2 ⟨rfl, hb⟩
    replace A := A.below hb
    replace U := U.below hb
    replace C3 := C3.below hb
    replace C4 := C4.below hb
    replace L := then_ L hb
    clear c0 c1 c2 c3 c4 c5 c6 c7 c8 c9
    refine hK1.out _ _ ?_
    clear hK1 K1 hb
    try simp only [ap, List.set]
    refine Seq.tk 3 26 (.bool false) ?_
    simp only [ap, List.set]
    refine Seq.tk 4 27 (.bool false) ?_
    simp only [ap, List.set]
    refine Seq.tk 5 28 (.bool b) ?_
    simp only [ap, List.set]
    refine Seq.tk 6 29 (.agg #[.int .i64 th, .int .i64 kind, .int .i64 id, .int .i64 to', .int .i64 cat, .string d, .int .i64 bl, .slice a1 l1.length k1, .int .i64 bc, .slice a2 l2.length k2]) ?_ (hv := by obtain ⟨c0, c1, c2, c3, c4, c5, c6, c7, c8, c9⟩ := A.ten; go_simp)
    simp only [ap, List.set]
    refine Seq.step rfl (fun K1 hK1 => ?_)
    obtain ⟨c0, c1, c2, c3, c4, c5, c6, c7, c8, c9⟩ := A.ten
    go_simp
    refine (T4.out _ L).mono ?_
    rintro e W2 ⟨rfl, hb⟩
    replace A := A.below hb
    replace U := U.below hb
    replace C3 := C3.below hb
    replace C4 := C4.below hb
    replace L := then_ L hb
    clear c0 c1 c2 c3 c4 c5 c6 c7 c8 c9
    refine hK1.out _ _ ?_
    clear hK1 K1 hb
    try simp only [ap, List.set]
    refine Seq.tk 8 31 (.bool false) ?_ (hv := by have eo := EO.out; clear EO; subst eo; go_simp)
    simp only [ap, List.set]
    refine Seq.tk 9 32 (.bool false) ?_
    simp only [ap, List.set]
    refine Seq.tk 10 33 (.bool false) ?_
    simp only [ap, List.set]
    refine Seq.tk 11 34 (.bool b) ?_
    simp only [ap, List.set]
    refine Seq.tk 12 35 (.bool b) ?_
    simp only [ap, List.set]
    refine Seq.pass (j := 69) 56 rfl (by have eo := EO.out; clear EO; subst eo; show (_ : Bool) = true; kernel_rfl) ?_
    refine Seq.tk 69 92 (.bool false) ?_ (hv := by have eo := EO.out; clear EO; subst eo; go_simp)
    simp only [ap, List.set]
    refine Seq.tk 70 93 (.bool false) ?_
    simp only [ap, List.set]
    refine Seq.done (Nat.le_of_eq (by rfl)) ?_
    go_wp2_with fail
    go_meet
    case rel => exact ⟨rfl, then_ HC1.out L⟩
  case rest =>
  obtain ⟨rfl, cc⟩ := hcut
  have CC := hid cc
  clear cc A3 U3 C3 d3 bw T2 T4 ER HC HC1
  go_wp2_with fail
  refine (P1.out _ CC.out).mono ?_
  rintro e w7 ⟨t, rfl, ht, h7⟩
  have c7 := hid (then_ CC.out h7)
  clear h7 P1 CC
  obtain ⟨y, ey⟩ : ∃ y, y = readS t.data.toList := ⟨_, rfl⟩
  have U1 : Hid (∀ W, Below w.heap.size w W → Calls Tryz.prog 7 #[.string t] W fun e w' => ∃ a5 k5 a6 k6, e = .returned (.tuple #[.agg #[.int .i64 y.th, .int .i64 y.kind, .int .i64 y.id, .int .i64 y.to', .int .i64 y.cat, .string y.d, .int .i64 y.b1, .slice a5 y.l1.length k5, .int .i64 y.b2, .slice a6 y.l2.length k6], .bool y.ok]) ∧ Two W w' (.slice a5 y.l1.length k5) (.slice a6 y.l2.length k6) y.l1 y.l2 ∧ Below W.heap.size W w') := hid (fun W h => by
   rw [ey]
   exact implReadStep_any u pv t.data.toList W (by rw [← size_data]; omega) (HE.out W h))
  have U2 : Hid (∀ W, Calls Tryz.prog 12 #[.string t] W fun e w' => ∃ a7 k7 a8 k8, e = .returned (.tuple #[.agg #[.int .i64 y.th, .int .i64 y.kind, .int .i64 y.id, .int .i64 y.to', .int .i64 y.cat, .string y.d, .int .i64 y.b1, .slice a7 y.l1.length k7, .int .i64 y.b2, .slice a8 y.l2.length k8], .bool y.ok]) ∧ Below W.heap.size W w') := hid (fun W => by
   rw [ey]
   refine (specReadStep_any t W (by omega)).mono ?_
   rintro e w' ⟨a7, k7, a8, k8, e1, _, _, h4⟩
   exact ⟨a7, k7, a8, k8, e1, h4⟩)
  have WA : Hid (y.ok = true → stepX y.th y.kind y.id y.to' y.cat y.d y.b1 y.l1 y.b2 y.l2 = t ∧ y.d.size ≤ maxLen ∧ y.l1.length ≤ maxLen ∧ y.l2.length ≤ maxLen) := hid (fun h => by
   rw [ey] at h
   have e1 := write_again h
   have ok1 := read_right h
   rw [← ey] at e1 ok1
   have g := step_is _ _ _ _ _ _ _ _ _ _ _ _ _ _ ok1
   refine ⟨e1, ?_, ?_, ?_⟩
   ·have := g.2.2.2.2.2.1; unfold maxLen; omega
   ·have := (labOk_out g.2.2.2.2.2.2.1).2.1; unfold maxLen; omega
   ·have := (labOk_out g.2.2.2.2.2.2.2).2.1; unfold maxLen; omega)
  clear ey ht
  go_wp2_with fail
  refine (U1.out _ c7.out).mono ?_
  rintro e w8 ⟨a5, k5, a6, k6, rfl, tw, h8⟩
  have c8 := hid ((then_ c7.out h8).alloc (then_ c7.out h8).size (.cells #[.int .i64 y.th, .int .i64 y.kind, .int .i64 y.id, .int .i64 y.to', .int .i64 y.cat, .string y.d, .int .i64 y.b1, .slice a5 y.l1.length k5, .int .i64 y.b2, .slice a6 y.l2.length k6] 28))
  have B8 := hid (Blk.new w8 (.cells #[.int .i64 y.th, .int .i64 y.kind, .int .i64 y.id, .int .i64 y.to', .int .i64 y.cat, .string y.d, .int .i64 y.b1, .slice a5 y.l1.length k5, .int .i64 y.b2, .slice a6 y.l2.length k6] 28))
  have C8 := hid tw.cats
  have bw := hid ((Below.refl _ w8).alloc (Nat.le_refl _) (.cells #[.int .i64 y.th, .int .i64 y.kind, .int .i64 y.id, .int .i64 y.to', .int .i64 y.cat, .string y.d, .int .i64 y.b1, .slice a5 y.l1.length k5, .int .i64 y.b2, .slice a6 y.l2.length k6] 28))
  clear tw h8 c7 U1
  go_wp2_with fail
  refine (U2.out _).mono ?_
  rintro e w9 ⟨a7, k7, a8, k8, rfl, h9⟩
  have c9 := hid ((then_ c8.out h9).alloc (then_ c8.out h9).size (.cells #[.int .i64 y.th, .int .i64 y.kind, .int .i64 y.id, .int .i64 y.to', .int .i64 y.cat, .string y.d, .int .i64 y.b1, .slice a7 y.l1.length k7, .int .i64 y.b2, .slice a8 y.l2.length k8] 28))
  have B9 := hid ((B8.out.below h9).alloc (.cells #[.int .i64 y.th, .int .i64 y.kind, .int .i64 y.id, .int .i64 y.to', .int .i64 y.cat, .string y.d, .int .i64 y.b1, .slice a7 y.l1.length k7, .int .i64 y.b2, .slice a8 y.l2.length k8] 28))
  have C9 := hid (show CatsAt (w9.alloc (.cells #[.int .i64 y.th, .int .i64 y.kind, .int .i64 y.id, .int .i64 y.to', .int .i64 y.cat, .string y.d, .int .i64 y.b1, .slice a7 y.l1.length k7, .int .i64 y.b2, .slice a8 y.l2.length k8] 28)) a5 y.l1.length (fstAt y.l1) (sndAt y.l1) ∧ CatsAt (w9.alloc (.cells #[.int .i64 y.th, .int .i64 y.kind, .int .i64 y.id, .int .i64 y.to', .int .i64 y.cat, .string y.d, .int .i64 y.b1, .slice a7 y.l1.length k7, .int .i64 y.b2, .slice a8 y.l2.length k8] 28)) a6 y.l2.length (fstAt y.l2) (sndAt y.l2) from ⟨((C8.out.1.below bw.out).below h9).below ((Below.refl _ w9).alloc (Nat.le_refl _) _), ((C8.out.2.below bw.out).below h9).below ((Below.refl _ w9).alloc (Nat.le_refl _) _)⟩)
  clear h9 c8 B8 C8 bw U2
  obtain ⟨z0, z1, z2, z3, z4, z5, z6, z7, z8, z9⟩ := B9.out.ten
  cases hq : y.ok with
  | true =>
   obtain ⟨e1, s1, s2, s3⟩ := WA.out hq
   have V3 : Hid (Calls Tryz.prog 6 #[.agg #[.int .i64 y.th, .int .i64 y.kind, .int .i64 y.id, .int .i64 y.to', .int .i64 y.cat, .string y.d, .int .i64 y.b1, .slice a5 y.l1.length k5, .int .i64 y.b2, .slice a6 y.l2.length k6]] (w9.alloc (.cells #[.int .i64 y.th, .int .i64 y.kind, .int .i64 y.id, .int .i64 y.to', .int .i64 y.cat, .string y.d, .int .i64 y.b1, .slice a7 y.l1.length k7, .int .i64 y.b2, .slice a8 y.l2.length k8] 28)) fun e w' => e = .returned (.string t) ∧ Below (w9.alloc (.cells #[.int .i64 y.th, .int .i64 y.kind, .int .i64 y.id, .int .i64 y.to', .int .i64 y.cat, .string y.d, .int .i64 y.b1, .slice a7 y.l1.length k7, .int .i64 y.b2, .slice a8 y.l2.length k8] 28)).heap.size (w9.alloc (.cells #[.int .i64 y.th, .int .i64 y.kind, .int .i64 y.id, .int .i64 y.to', .int .i64 y.cat, .string y.d, .int .i64 y.b1, .slice a7 y.l1.length k7, .int .i64 y.b2, .slice a8 y.l2.length k8] 28)) w') := hid (by
    have k := implStepText_any y.th y.kind y.id y.to' y.cat y.d y.b1 a5 y.l1.length k5 _ _ y.b2 a6 y.l2.length k6 _ _ _ s1 s2 s3 C9.out.1 C9.out.2 (HT.out _ c9.out)
    rw [← e1]
    exact k)
   clear e1 s1 s2 s3 WA C9 hq B9
   go_wp2_with (go_at_call 6; refine V3.out.mono ?_; rintro e w10 ⟨rfl, h10⟩)
   go_ret
   exact ⟨rfl, then_ c9.out h10⟩
  | false =>
   clear WA C9 hq B9
   go_wp2_with fail
   go_ret
   exact ⟨rfl, c9.out⟩
 ·have hn' : decide (1048576 < n) = true := decide_eq_true (by omega)
  go_enter Tryz.func3, Tryz.ntmps3
  go_wp2_with (go_at_call 4; refine (big_any a n cap _).mono ?_; rintro e w1 ⟨rfl, hw1⟩; subst w1)
  go_ret
  exact ⟨rfl, Below.refl _ _⟩
end Go.Proofs.YthbmfbnnemgbpaaGreatDoor
