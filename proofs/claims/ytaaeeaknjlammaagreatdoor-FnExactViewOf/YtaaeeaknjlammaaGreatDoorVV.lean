/- Labels that are copied and compared for a law; what an observer is told hangs on what lies there alone. -/
import Derived.Test.YtaaeeaknjlammaaGreatDoorVP
import Derived.Test.YtaaeeaknjlammaaGreatDoorKD1
import Derived.Test.YtaaeeaknjlammaaGreatDoorVW
import Derived.Test.YtaaeeaknjlammaaGreatDoorTW
namespace Go.Proofs.YtaaeeaknjlammaaGreatDoor
open Go Go.RowKit Go.Deep Go.Maps

theorem toLabel_v (b : Int) (c : CatL) (w : World) (hc : c.at w) (hs : c.n ≤ 1048576) :
    Calls Tryz.prog 9 #[.agg #[.int .i64 b, c.val]] w fun e w' => ∃ d : CatL, e = .returned (.agg #[.int .i64 b, d.val]) ∧ c.same d ∧ d.row w' ∧ (∀ p, d.a = some p → w.heap.size ≤ p.block) ∧ Below w.heap.size w w' :=
  (toLabel_any b c.a c.n c.k c.f c.g w hs hc.2).mono fun e w' ⟨g, h1, h2, h3, h4⟩ => ⟨⟨some ⟨g, 0, none⟩, c.n, c.n, c.f, c.g⟩, h1, ⟨rfl, rfl, rfl⟩, ⟨g, rfl, h3⟩, fun p e => by cases e; exact h2, h4⟩
theorem CatL.same.at {c d : CatL} {w : World} (h : c.same d) (hn : c.n ≤ 1048576) (hr : d.row w) : d.at w := by
  obtain ⟨g, e, hr⟩ := hr
  have en := h.1
  exact ⟨by unfold maxLen; omega, by rw [e]; exact CatsAt.row hr⟩
theorem labOkV_same {b : Int} {c d : CatL} (h : c.same d) : labOkV b d = labOkV b c := by
  unfold labOkV
  rw [h.1, h.2.1, h.2.2]
theorem seenO_same {t u : ObjV} {b : Int} {c d : CatL} (h : t.same u) (h' : c.same d) : seenO u b d = seenO t b c := by
  unfold seenO
  rw [h'.1, h'.2.1, h'.2.2, h.2.2.2.1, h.2.2.2.2.1.1, h.2.2.2.2.1.2.1, h.2.2.2.2.1.2.2]
theorem feltT_same {t u : ThrV} {b : Int} {c d : CatL} (h : t.same u) (h' : c.same d) : feltT u b d = feltT t b c := by
  unfold feltT
  rw [h'.1, h'.2.1, h'.2.2, h.2.1, h.2.2.1.1, h.2.2.1.2.1, h.2.2.1.2.2, h.2.2.2.2.2.1.1, h.2.2.2.2.2.1.2]
theorem kidsK_same {k l : KerV} (h : k.same l) (i : Nat) (hi : i < k.on) : kidsK l i = kidsK k i := by
  unfold kidsK kidsTo
  rw [h.2.2.1]
  simp only [(h.2.2.2 i hi).1]
  have e : (List.range k.on).filter (fun j => (l.O j).up == (k.O i).id) = (List.range k.on).filter (fun j => (k.O j).up == (k.O i).id) := List.filter_congr fun j hj => by rw [(h.2.2.2 j (List.mem_range.1 hj)).2.2.1]
  rw [e]
  exact List.map_congr_left fun j hj => (h.2.2.2 j (List.mem_range.1 (List.mem_filter.1 hj).1)).1
theorem vText_same {k l : KerV} {b : Int} {c d : CatL} (h : k.same l) (h' : c.same d) : vText l b d = vText k b c := by
  unfold vText vHead
  rw [kerOk_same h, labOkV_same h', lb_same h']
  have e1 : vThr l b d l.tn = vThr k b c k.tn := by
    unfold vThr
    rw [h.1]
    refine congrArg List.flatten (List.map_congr_left fun j hj => ?_)
    have s := h.2.1 j (List.mem_range.1 hj)
    rw [feltT_same s h', thrX_same s]
  have e2 : vObj l b d l.on = vObj k b c k.on := by
    unfold vObj
    rw [h.2.2.1]
    refine congrArg List.flatten (List.map_congr_left fun j hj => ?_)
    have s := h.2.2.2 j (List.mem_range.1 hj)
    rw [seenO_same s h', objT_same s, kidsK_same h j (List.mem_range.1 hj)]
  rw [e1, e2]
end Go.Proofs.YtaaeeaknjlammaaGreatDoor
