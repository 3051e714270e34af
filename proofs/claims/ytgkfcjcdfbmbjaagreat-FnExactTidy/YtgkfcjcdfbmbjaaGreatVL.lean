/- Labels that are copied, marked and compared for a law; what is seen hangs on what lies there alone. -/
import Derived.Test.YtgkfcjcdfbmbjaaGreatVP
import Derived.Test.YtgkfcjcdfbmbjaaGreatKD1
import Derived.Test.YtgkfcjcdfbmbjaaGreatZD
namespace Go.Proofs.YtgkfcjcdfbmbjaaGreat
open Go Go.RowKit Go.Deep Go.Maps

theorem toLabel_v (b : Int) (c : CatL) (w : World) (hc : c.at w) (hs : c.n ≤ 1048576) :
    Calls Tryz.prog 9 #[.agg #[.int .i64 b, c.val]] w fun e w' => ∃ d : CatL, e = .returned (.agg #[.int .i64 b, d.val]) ∧ c.same d ∧ d.row w' ∧ (∀ p, d.a = some p → w.heap.size ≤ p.block) ∧ Below w.heap.size w w' :=
  (toLabel_any b c.a c.n c.k c.f c.g w hs hc.2).mono fun e w' ⟨g, h1, h2, h3, h4⟩ => ⟨⟨some ⟨g, 0, none⟩, c.n, c.n, c.f, c.g⟩, h1, ⟨rfl, rfl, rfl⟩, ⟨g, rfl, h3⟩, fun p e => by cases e; exact h2, h4⟩
theorem CatL.same.at {c d : CatL} {w : World} (h : c.same d) (hn : c.n ≤ 1048576) (hr : d.row w) : d.at w := by
  obtain ⟨g, e, hr⟩ := hr
  have en := h.1
  exact ⟨by unfold maxLen; omega, by rw [e]; exact CatsAt.row hr⟩
theorem labOkV_same {b : Int} {c d : CatL} (h : c.same d) : labOkV b d = labOkV b c := by
  unfold labOkV
  rw [h.1, h.2.1, h.2.2]
theorem seenO_same {t u : ObjV} {b : Int} {c d : CatL} (h : t.same u) (h' : c.same d) : seenO u b d = seenO t b c := by
  unfold seenO
  rw [h'.1, h'.2.1, h'.2.2, h.2.2.2.1, h.2.2.2.2.1.1, h.2.2.2.2.1.2.1, h.2.2.2.2.1.2.2]
theorem seenTo_same {O U : Nat → ObjV} {b : Int} {c d : CatL} {n : Nat} (h : ∀ j, j < n → (O j).same (U j)) (h' : c.same d) : seenTo U b d n = seenTo O b c n := by
  unfold seenTo
  have e : (List.range n).filter (fun j => seenO (U j) b d) = (List.range n).filter (fun j => seenO (O j) b c) := List.filter_congr fun j hj => seenO_same (h j (List.mem_range.1 hj)) h'
  rw [e]
  exact List.map_congr_left fun j hj => (h j (List.mem_range.1 (List.mem_filter.1 hj).1)).1
theorem seenL_same {k l : KerV} {b : Int} {c d : CatL} (h : k.same l) (h' : c.same d) : seenL l b d = seenL k b c := by
  unfold seenL
  rw [kerOk_same h, labOkV_same h', h.2.2.1, seenTo_same h.2.2.2 h']
theorem boxI_same {k l : KerV} (h : k.same l) {i : Nat} (hi : i < k.on) : boxI l i = boxI k i := by
  unfold boxI
  rw [h.2.2.1, findI_congr (ids := fun j => (k.O j).id) (fun j hj => (h.2.2.2 j hj).1), (h.2.2.2 i hi).2.2.1]
theorem tidyB_same {k l : KerV} {b : Int} {c d : CatL} (h : k.same l) (h' : c.same d) : tidyB l b d = tidyB k b c := by
  cases t : kerOk k with
  | false => rw [tidyB_no1 t, tidyB_no1 (by rw [kerOk_same h]; exact t)]
  | true =>
    unfold tidyB
    rw [kerOk_same h, labOkV_same h', h.2.2.1]
    congr 1
    refine all_congr fun i hi => ?_
    have hi1 : i + 1 < k.on := by omega
    obtain ⟨u, hu⟩ := ups_box t hi1 (by omega)
    have hb : boxI k (i + 1) < k.on := by rw [box_same hu]; exact (findI_some hu).1
    unfold tidyAt
    rw [boxI_same h hi1, seenO_same (h.2.2.2 _ hi1) h', seenO_same (h.2.2.2 _ hb) h']

set_option maxRecDepth 100000 in
set_option maxHeartbeats 4000000 in
theorem markLabel_k (b : Int) (c : CatL) (lo hi : Nat) (k0 : Int) (w : World) (hr : c.room lo hi w) (h0 : 0 ≤ k0) (h1 : k0 ≤ 1000000000000000) :
    Calls Tryz.prog 15 #[.agg #[.int .i64 b, c.val], .int .i64 k0] w fun e w' => ∃ k1 : Int, e = .returned (.int .i64 k1) ∧ k0 ≤ k1 ∧ Mk lo hi w w' := by
  have b0 : Below w.heap.size w (w.alloc (.cells #[.int .i64 b, c.val] 40)) := (Below.refl _ w).alloc (Nat.le_refl _) _
  have A0 := Blk.new w (.cells #[.int .i64 b, c.val] 40)
  have M0 := hid (MkL.of_below (lo := lo) (hi := hi) b0).toMk
  have C1 := hid (markCatS_k c lo hi k0 _ (hr.mk M0.out) h0 h1)
  obtain ⟨x0, x1⟩ := A0.two
  clear hr b0
  go_enter Tryz.func15, Tryz.ntmps15
  go_wp2_with fail
  refine C1.out.mono ?_
  rintro e w1 ⟨rfl, m1⟩
  have M1 := hid (M0.out.trans m1.toMk)
  clear x0 x1 A0 C1 m1 M0
  go_wp2
  go_ret
  exact ⟨_, rfl, by omega, M1.out⟩
end Go.Proofs.YtgkfcjcdfbmbjaaGreat
