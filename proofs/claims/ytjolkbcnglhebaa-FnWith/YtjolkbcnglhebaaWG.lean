/- With of the program: the walk. -/
import Derived.Test.YtjolkbcnglhebaaWF
namespace Go.Proofs.Ytjolkbcnglhebaa
open Go.RowKit Go.Deep Go.Maps

set_option maxRecDepth 100000 in
set_option maxHeartbeats 2000000 in
theorem implWith_any (base : Int) (a : Option Addr) (n cap : Nat) (f g : Nat → Int) (cat level : Int) (w : World) (hn : n ≤ maxLen) (hc : CatsAt w a n f g) :
    Calls Try.prog 12 #[.agg #[.int .i64 base, .slice a n cap], .int .i64 cat, .int .i64 level] w fun e w' => WithPost base n f g cat level w e w' := by
  have hb0 := ((Below.refl _ w).alloc (Nat.le_refl _) (.cells #[.int .i64 base, .slice a n cap] 26)).alloc (by simp) (.cells #[.int .i64 0, .slice none 0 0] 26)
  have X0 : Blk ((w.alloc (.cells #[.int .i64 base, .slice a n cap] 26)).alloc (.cells #[.int .i64 0, .slice none 0 0] 26)) w.heap.size (.cells #[.int .i64 base, .slice a n cap] 26) := (Blk.new w _).alloc _
  have Y0 : Blk ((w.alloc (.cells #[.int .i64 base, .slice a n cap] 26)).alloc (.cells #[.int .i64 0, .slice none 0 0] 26)) (w.heap.size + 1) (.cells #[.int .i64 0, .slice none 0 0] 26) := by
    have := Blk.new (w.alloc (.cells #[.int .i64 base, .slice a n cap] 26)) (.cells #[.int .i64 0, .slice none 0 0] 26)
    simpa using this
  go_enter Try.func12, Try.ntmps12
  go_wp2_with fail
  refine (implOk_any _ _ _ _ f g _ hn (hc.below hb0)).mono ?_
  rintro e w1 ⟨rfl, hb1⟩
  have X1 := X0.below hb1
  have Y1 := Y0.below hb1
  have B1 : Below w.heap.size w w1 := hb0.trans (hb1.mono (by simp; omega))
  obtain ⟨x1, x2⟩ := X1.two
  obtain ⟨y1, y2⟩ := Y1.two
  have yf0 := Y1.frozen2 0
  have yf1 := Y1.frozen2 1
  have lY := Y1.lt
  clear hb0 hb1 X0 Y0
  have NP : Hid (∀ v : World, withOk base n f g cat level = false → Below w.heap.size w v → WithPost base n f g cat level w (.returned (.tuple #[.agg #[.int .i64 0, .slice none 0 0], .bool false])) v) := fun v h1 h2 => withPost_no h1 h2
  by_cases t0 : labOk base n f g = true
  · by_cases t1 : inB cat 1 9999 = true
    · by_cases t2 : inB level 0 3 = true
      · have hn' : n ≤ 12 := (labOk_out t0).2.1
        go_wp2_with (first | (go_at_call 41; refine (isCat_any _ _).mono ?_; rintro e w' ⟨rfl, rfl⟩) | (go_at_call 42; refine (isLevel_any _ _).mono ?_; rintro e w' ⟨rfl, rfl⟩))
        refine (levelsOf_any _ _ _ _ f g _ (by omega) (hc.below B1) (labOk_wf t0)).mono ?_
        rintro e w2 ⟨c, rfl, hcl, hm, hz, hb2⟩
        have HW : Hid (withOk base n f g cat level = decide ((insFin base n f g cat level).length ≤ 12)) := by show _ = _; simp [withOk, t0, t1, t2]
        have HL : Hid (∀ (h : Nat → Int) (k : Nat), (∀ j, j < k → ∀ i, i < j → h i < h j) → (∀ x, (∃ i, i < k ∧ h i = x) ↔ (setAt (look f g n) cat level x).isSome = true) → fltTo base (setAt (look f g n) cat level) h k = insFin base n f g cat level) := fun h k h1 h2 => with_lists t0 h1 h2
        have YES : Hid (∀ (va : Option Addr) (vc : Nat) (v : World), withOk base n f g cat level = true → Below w.heap.size w v → OwnList v w.heap.size (.slice va (insFin base n f g cat level).length vc) (insFin base n f g cat level) → WithPost base n f g cat level w (.returned (.tuple #[.agg #[.int .i64 base, .slice va (insFin base n f g cat level).length vc], .bool true])) v) := fun va vc v h1 h2 h3 => withPost_yes h1 h2 h3
        have l2 : w.heap.size + 1 < w2.heap.size := Nat.lt_of_lt_of_le lY hb2.size
        have Y2 := (Y1.below hb2).alloc (.cells #[.int .i64 base, .map (some c)] 66)
        have Z2 := Blk.new w2 (.cells #[.int .i64 base, .map (some c)] 66)
        have B2 : Below w.heap.size w w2 := B1.trans (hb2.mono B1.size)
        have hclt := hm.lt
        obtain ⟨D, hown, hD, hall⟩ := hm
        have hkey : keyOf Try.prog 2 (.int .i64 cat) = some (.int .i64 cat) := keyOf_int_mk Try.underlying2 (wf_of_le (by have := (inB_iff.1 t1).1; omega) (by have := (inB_iff.1 t1).2; omega))
        have HWL : Hid ((Lit.int .i64 level).wf = true) := wf_of_le (by have := (inB_iff.1 t2).1; omega) (by have := (inB_iff.1 t2).2; omega)
        have HALL : Hid (∀ x, Maps.has D (.int .i64 x) = (look f g n x).isSome ∧ ∀ v, look f g n x = some v → D.atKey (.int .i64 x) (.lit (.int .i64 0)) = .lit (.int .i64 v)) := hall
        clear x1 x2 y1 y2 yf0 yf1 hb2 X1 Y1 hc hall
        have cne : c ≠ w.heap.size + 1 := by omega
        go_wp2_with (at_mapUpdate; refine wpList_mapUpdate_own _ rfl _ _ _ 64 rfl 2 2 keyed2 Try.underlying64 _ c n _ rfl (hown.alloc _) (by unfold maxLen; omega) _ _ _ rfl rfl hkey _ [] (plainElem_int Try.underlying2 HWL.out) ?_; intro w3 hown3 hgrow3; have Z3 := Z2.grown hgrow3 (by simp; omega); obtain ⟨z1, z2⟩ := Z3.two)
        have hm3 := MapIs.put (k := cat) (v := level) hD HALL.out
        have M3 : MapIs w3 c (n + 1) (setAt (look f g n) cat level) := ⟨_, hown3, hm3.1, hm3.2⟩
        have Y3 := Y2.grown hgrow3 (by simp; omega)
        have s3 : w2.heap.size + 1 ≤ w3.heap.size := by have := hgrow3.size; simpa using this
        have B3 : Below w.heap.size w w3 := (B2.alloc B2.size _).grown hgrow3 (by simp; omega) (fun j e => by cases e; omega)
        clear hown hD hown3 hm3 hgrow3 Z2 Y2 hkey
        refine (label_any _ _ _ _ _ M3 (by omega)).mono ?_
        rintro e w4 ⟨k, h, hmem, hris, hk, hres, hb4⟩
        rw [HL.out h k hris hmem] at hres
        have Y4 := Y3.below hb4
        obtain ⟨y1, y2⟩ := Y4.two
        have yf0 := Y4.frozen2 0
        have yf1 := Y4.frozen2 1
        have B4 : Below w.heap.size w w4 := B3.trans (hb4.mono B3.size)
        clear z1 z2 Z3 Y3 M3 hmem hris
        rcases hres with ⟨t3, rfl⟩ | ⟨t3, va, vc, rfl, ho⟩
        · have t3' : withOk base n f g cat level = false := by rw [HW.out]; simpa using t3
          have HW' : Hid (withOk base n f g cat level = false) := t3'
          clear t3' t3
          go_wp2
          exact bodyPost_ret (v := .tuple #[.agg #[.int .i64 0, .slice none 0 0], .bool false]) (by simp [results, Try.results12, go_sem, *]) rfl (NP.out _ HW'.out ((B4.setCell (by dsimp only; omega) _).setCell (by dsimp only; omega) _))
        · have t3' : withOk base n f g cat level = true := by rw [HW.out]; simpa using t3
          have HW' : Hid (withOk base n f g cat level = true) := t3'
          have HO : Hid (OwnList w4 w3.heap.size (.slice va (insFin base n f g cat level).length vc) (insFin base n f g cat level)) := ho
          clear t3' t3 ho HW HL
          generalize insFin base n f g cat level = L at *
          go_wp2
          refine bodyPost_ret (v := .tuple #[.agg #[.int .i64 base, .slice va L.length vc], .bool true]) (by simp [results, Try.results12, go_sem, *]) rfl (YES.out _ _ _ HW'.out ((B4.setCell (by dsimp only; omega) _).setCell (by dsimp only; omega) _) ?_)
          exact ownsRow_base_a (OwnList.set (OwnList.set HO.out (by omega) _ _) (by omega) _ _) (by omega)
      · have t2' : inB level 0 3 = false := by simpa using t2
        have HW : Hid (withOk base n f g cat level = false) := by show _ = _; simp [withOk, t2']
        clear t2
        go_wp2_with (first | (go_at_call 41; refine (isCat_any _ _).mono ?_; rintro e w' ⟨rfl, rfl⟩) | (go_at_call 42; refine (isLevel_any _ _).mono ?_; rintro e w' ⟨rfl, rfl⟩))
        exact bodyPost_ret (v := .tuple #[.agg #[.int .i64 0, .slice none 0 0], .bool false]) (by simp [results, Try.results12, go_sem, *]) rfl (NP.out _ HW.out ((B1.setCell (by dsimp only; omega) _).setCell (by dsimp only; omega) _))
    · have t1' : inB cat 1 9999 = false := by simpa using t1
      have HW : Hid (withOk base n f g cat level = false) := by show _ = _; simp [withOk, t1']
      clear t1
      go_wp2_with (first | (go_at_call 41; refine (isCat_any _ _).mono ?_; rintro e w' ⟨rfl, rfl⟩) | (go_at_call 42; refine (isLevel_any _ _).mono ?_; rintro e w' ⟨rfl, rfl⟩))
      exact bodyPost_ret (v := .tuple #[.agg #[.int .i64 0, .slice none 0 0], .bool false]) (by simp [results, Try.results12, go_sem, *]) rfl (NP.out _ HW.out ((B1.setCell (by dsimp only; omega) _).setCell (by dsimp only; omega) _))
  · have t0' : labOk base n f g = false := by simpa using t0
    have HW : Hid (withOk base n f g cat level = false) := by show _ = _; simp [withOk, t0']
    clear t0
    go_wp2
    exact bodyPost_ret (v := .tuple #[.agg #[.int .i64 0, .slice none 0 0], .bool false]) (by simp [results, Try.results12, go_sem, *]) rfl (NP.out _ HW.out ((B1.setCell (by dsimp only; omega) _).setCell (by dsimp only; omega) _))
end Go.Proofs.Ytjolkbcnglhebaa
