/- What an observer sees: the program's eye, the model's l5Seen; whether kernel and label are right. -/
import Derived.Test.YtaaeeaknjlammaaGreatDoorVP
import Derived.Test.YtaaeeaknjlammaaGreatDoorKB13
import Derived.Test.YtaaeeaknjlammaaGreatDoorKB10
import Derived.Test.YtaaeeaknjlammaaGreatDoorKD1
namespace Go.Proofs.YtaaeeaknjlammaaGreatDoor
open Go Go.RowKit Go.Deep Go.Maps

theorem implLeq_v (b : Int) (c : CatL) (b' : Int) (c' : CatL) (w : World) (hc : c.at w) (hc' : c'.at w) :
    Calls Tryz.prog 62 #[.agg #[.int .i64 b, c.val], .agg #[.int .i64 b', c'.val]] w fun e w' => e = .returned (.bool (leqB b c.n c.f c.g b' c'.n c'.f c'.g)) ∧ Below w.heap.size w w' :=
  implLeq_any b c.a c.n c.k c.f c.g b' c'.a c'.n c'.k c'.f c'.g w hc.1 hc'.1 hc.2 hc'.2
theorem l1Flows_v (b : Int) (c : CatL) (b' : Int) (c' : CatL) (w : World) (hc : c.at w) (hc' : c'.at w) (h : labOk b c.n c.f c.g = true) (h' : labOk b' c'.n c'.f c'.g = true) :
    Calls Tryz.prog 21 #[.agg #[.int .i64 b, c.val], .slice none 0 0, .agg #[.int .i64 b', c'.val]] w fun e w' => e = .returned (.bool (flowsB b c.n c.f c.g 0 (fun _ => 0) b' c'.n c'.f c'.g)) ∧ Below w.heap.size w w' :=
  l1Flows_any b c.a c.n c.k c.f c.g none 0 0 (fun _ => 0) b' c'.a c'.n c'.k c'.f c'.g w (by have := (labOk_out h).2.1; omega) (by have := (labOk_out h').2.1; omega) (Nat.zero_le _) hc.2 hc'.2 (fun h => by omega) (rising (labOk_out h).2.2) (rising (labOk_out h').2.2)

set_option maxRecDepth 100000 in
set_option maxHeartbeats 4000000 in
theorem sees_any (b : Int) (c : CatL) (t : ObjV) (w : World) (hc : c.at w) (ht : t.at w) :
    Calls Tryz.prog 35 #[.agg #[.int .i64 b, c.val], t.val] w fun e w' => e = .returned (.bool (leqB t.b1 t.c1.n t.c1.f t.c1.g b c.n c.f c.g)) ∧ Below w.heap.size w w' := by
  have hb0 : Below w.heap.size w ((w.alloc (.cells #[.int .i64 b, c.val] 68)).alloc t.blk) := ((Below.refl _ w).alloc (Nat.le_refl _) _).alloc (by simp) _
  have E0 := (Blk.new w (.cells #[.int .i64 b, c.val] 68)).alloc t.blk
  have A0 : Blk ((w.alloc (.cells #[.int .i64 b, c.val] 68)).alloc t.blk) (w.heap.size + 1) t.blk := by
    have := Blk.new (w.alloc (.cells #[.int .i64 b, c.val] 68)) t.blk
    simpa using this
  have LQ := hid (implLeq_v t.b1 t.c1 b c _ (ht.below hb0).1 (hc.below hb0))
  unfold ObjV.blk at hb0 E0 A0 LQ
  unfold ObjV.val
  obtain ⟨x0, x1, x2, x3, x4, x5, x6, x7, x8, x9⟩ := A0.ten
  obtain ⟨y0, y1⟩ := E0.two
  clear ht hc
  go_enter Tryz.func35, Tryz.ntmps35
  go_wp2_with fail
  refine LQ.out.mono ?_
  rintro e w1 ⟨rfl, hb1⟩
  have B1 := then_ hb0 hb1
  clear x0 x1 x2 x3 x4 x5 x6 x7 x8 x9 y0 y1 LQ A0 E0 hb0 hb1
  go_wp2
  go_ret
  exact ⟨rfl, B1⟩

set_option maxRecDepth 100000 in
set_option maxHeartbeats 4000000 in
theorem l5Seen_any (t : ObjV) (b : Int) (c : CatL) (w : World) (ht : t.at w) (hc : c.at w) (h1 : labOk t.b1 t.c1.n t.c1.f t.c1.g = true) (h2 : labOkV b c = true) :
    Calls Tryz.prog 24 #[t.val, .agg #[.int .i64 b, c.val]] w fun e w' => e = .returned (.bool (seenO t b c)) ∧ Below w.heap.size w w' := by
  have hb0 : Below w.heap.size w ((w.alloc t.blk).alloc (.cells #[.int .i64 b, c.val] 39)) := ((Below.refl _ w).alloc (Nat.le_refl _) _).alloc (by simp) _
  have A0 := (Blk.new w t.blk).alloc (.cells #[.int .i64 b, c.val] 39)
  have E0 : Blk ((w.alloc t.blk).alloc (.cells #[.int .i64 b, c.val] 39)) (w.heap.size + 1) (.cells #[.int .i64 b, c.val] 39) := by
    have := Blk.new (w.alloc t.blk) (.cells #[.int .i64 b, c.val] 39)
    simpa using this
  have LQ := hid (l1Flows_v t.b1 t.c1 b c _ (ht.below hb0).1 (hc.below hb0) h1 h2)
  unfold ObjV.blk at hb0 E0 A0 LQ
  unfold ObjV.val
  obtain ⟨x0, x1, x2, x3, x4, x5, x6, x7, x8, x9⟩ := A0.ten
  obtain ⟨y0, y1⟩ := E0.two
  clear ht hc h1 h2
  go_enter Tryz.func24, Tryz.ntmps24
  go_wp2_with fail
  refine LQ.out.mono ?_
  rintro e w1 ⟨rfl, hb1⟩
  have B1 := then_ hb0 hb1
  clear x0 x1 x2 x3 x4 x5 x6 x7 x8 x9 y0 y1 LQ A0 E0 hb0 hb1
  go_wp2
  go_ret
  exact ⟨rfl, B1⟩

set_option maxRecDepth 100000 in
set_option maxHeartbeats 4000000 in
theorem viewOk_any (k : KerV) (b : Int) (c : CatL) (w : World) (hk : k.at w) (hcap : k.on ≤ k.ok) (hw : k.wfs) (hc : c.at w) :
    Calls Tryz.prog 29 #[k.val, .agg #[.int .i64 b, c.val]] w fun e w' => e = .returned (.bool (kerOk k && labOkV b c)) ∧ Below w.heap.size w w' := by
  have hb0 : Below w.heap.size w ((w.alloc (.cells k.cells 35)).alloc (.cells #[.int .i64 b, c.val] 39)) := ((Below.refl _ w).alloc (Nat.le_refl _) _).alloc (by simp) _
  have A0 := (Blk.new w (.cells k.cells 35)).alloc (.cells #[.int .i64 b, c.val] 39)
  have E0 : Blk ((w.alloc (.cells k.cells 35)).alloc (.cells #[.int .i64 b, c.val] 39)) (w.heap.size + 1) (.cells #[.int .i64 b, c.val] 39) := by
    have := Blk.new (w.alloc (.cells k.cells 35)) (.cells #[.int .i64 b, c.val] 39)
    simpa using this
  have C1 := hid (implKer_any k _ (hk.below hb0) hcap hw)
  have HC := hid hc
  unfold KerV.val at C1
  unfold KerV.cells at hb0 A0 E0 C1
  unfold KerV.val
  obtain ⟨x0, x1⟩ := A0.two
  clear hk hw hc
  go_enter Tryz.func29, Tryz.ntmps29
  go_wp2_with fail
  refine C1.out.mono ?_
  rintro e w1 ⟨rfl, hb1⟩
  have E1 := E0.below hb1
  have B1 := then_ hb0 hb1
  clear x0 x1 C1 A0 E0 hb0 hb1
  obtain ⟨y0, y1⟩ := E1.two
  cases t : kerOk k with
  | false =>
    go_wp2
    go_ret
    exact ⟨ret_bool (by simp [t]), B1⟩
  | true =>
    have C2 := hid (labOk_v b c w1 (HC.out.below B1))
    go_wp2_with fail
    refine C2.out.mono ?_
    rintro e w2 ⟨rfl, hb2⟩
    have B2 := then_ B1 hb2
    clear C2 y0 y1 E1 hb2 B1
    go_wp2
    go_ret
    exact ⟨ret_bool (by simp [labOkV, t]), B2⟩
end Go.Proofs.YtaaeeaknjlammaaGreatDoor
