/- FnExactKernelText: the walk: the law answers true at every kernel that came in, and writes nothing that was there. -/
import Derived.Test.YtjceaajnemgheaaGreatDoorTT
import Derived.Test.YtjceaajnemgheaaGreatDoorZ4
namespace Go.Proofs.YtjceaajnemgheaaGreatDoor
open Go Go.RowKit Go.Deep Go.Maps

theorem lb_same {b : Int} {c d : CatL} (h : c.same d) : lb b d = lb b c := by
  unfold lb
  rw [h.1, h.2.1, h.2.2]
theorem nums_same {c d : IntL} (h : c.same d) : nums d = nums c := by
  unfold nums
  rw [h.1, h.2]
theorem thrX_same {t u : ThrV} (h : t.same u) : thrX u = thrX t := by
  unfold thrX
  rw [h.1, h.2.1, lb_same h.2.2.1, h.2.2.2.1, lb_same h.2.2.2.2.1, nums_same h.2.2.2.2.2.1, h.2.2.2.2.2.2]
theorem objT_same {t u : ObjV} (h : t.same u) (ks : List Int) : objT u ks = objT t ks := by
  unfold objT objX
  rw [h.1, h.2.1, h.2.2.1, h.2.2.2.1, lb_same h.2.2.2.2.1, h.2.2.2.2.2.1, h.2.2.2.2.2.2.1.1, h.2.2.2.2.2.2.1.2, nums_same h.2.2.2.2.2.2.2.1, h.2.2.2.2.2.2.2.2.1, lb_same h.2.2.2.2.2.2.2.2.2]
theorem kText_same {k l : KerV} (h : k.same l) : kText l = kText k := by
  unfold kText
  rw [kerOk_same h]
  have e1 : thrsX l.T l.tn = thrsX k.T k.tn := by
    unfold thrsX
    rw [h.1]
    exact congrArg List.flatten (List.map_congr_left fun j hj => thrX_same (h.2.1 j (List.mem_range.1 hj)))
  have e2 : objsX l.O l.on = objsX k.O k.on := by
    unfold objsX
    rw [h.2.2.1]
    exact congrArg List.flatten (List.map_congr_left fun j hj => objT_same (h.2.2.2 j (List.mem_range.1 hj)) [])
  rw [e1, e2]

end Go.Proofs.YtjceaajnemgheaaGreatDoor
