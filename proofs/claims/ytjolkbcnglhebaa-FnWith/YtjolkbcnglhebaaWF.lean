/- With of the program and of the model answer the same label. -/
import Derived.Test.YtjolkbcnglhebaaWE
namespace Go.Proofs.Ytjolkbcnglhebaa
open Go.RowKit Go.Deep Go.Maps

def withOk (base : Int) (n : Nat) (f g : Nat → Int) (cat level : Int) : Bool := labOk base n f g && inB cat 1 9999 && inB level 0 3 && decide ((insFin base n f g cat level).length ≤ 12)
def withBase (base : Int) (n : Nat) (f g : Nat → Int) (cat level : Int) : Int := if withOk base n f g cat level then base else 0
def withList (base : Int) (n : Nat) (f g : Nat → Int) (cat level : Int) : List (Int × Int) := if withOk base n f g cat level then insFin base n f g cat level else []

theorem insFin_len (base : Int) (n : Nat) (f g : Nat → Int) (cat level : Int) : (insFin base n f g cat level).length ≤ 2 * n + 1 := by
  have := insTo_len base f g cat level n
  unfold insFin
  dsimp only
  split
  · omega
  · rw [List.length_append]; show _ + 1 ≤ _; omega

/-- what a call of With leaves -/
def WithPost (base : Int) (n : Nat) (f g : Nat → Int) (cat level : Int) (w : World) (e : Ending) (w' : World) : Prop :=
  ∃ a k, e = .returned (.tuple #[.agg #[.int .i64 (withBase base n f g cat level), .slice a (withList base n f g cat level).length k], .bool (withOk base n f g cat level)]) ∧
    OwnList w' w.heap.size (.slice a (withList base n f g cat level).length k) (withList base n f g cat level) ∧ Below w.heap.size w w'

theorem withPost_no {base : Int} {n : Nat} {f g : Nat → Int} {cat level : Int} {w w' : World} (h : withOk base n f g cat level = false) (hb : Below w.heap.size w w') :
    WithPost base n f g cat level w (.returned (.tuple #[.agg #[.int .i64 0, .slice none 0 0], .bool false])) w' := by
  have e1 : withBase base n f g cat level = 0 := by simp [withBase, h]
  have e2 : withList base n f g cat level = [] := by simp [withList, h]
  refine ⟨none, 0, ?_, ?_, hb⟩
  · rw [e1, e2, h]; rfl
  · rw [e2]; exact OwnCats.nil _ _ _ _

theorem withPost_yes {base : Int} {n : Nat} {f g : Nat → Int} {cat level : Int} {w w' : World} {a : Option Addr} {k : Nat} (h : withOk base n f g cat level = true) (hb : Below w.heap.size w w')
    (ho : OwnList w' w.heap.size (.slice a (insFin base n f g cat level).length k) (insFin base n f g cat level)) :
    WithPost base n f g cat level w (.returned (.tuple #[.agg #[.int .i64 base, .slice a (insFin base n f g cat level).length k], .bool true])) w' := by
  have e1 : withBase base n f g cat level = base := by simp [withBase, h]
  have e2 : withList base n f g cat level = insFin base n f g cat level := by simp [withList, h]
  refine ⟨a, k, ?_, ?_, hb⟩
  · rw [e1, e2, h]
  · rw [e2]; exact ho

theorem OwnList.below {w w' : World} {B : Nat} {v : Value} {l : List (Int × Int)} (h : OwnList w B v l) (hb : Below w.heap.size w w') : OwnList w' B v l := by
  refine ⟨h.1, ?_⟩
  rcases h.2 with hn | ⟨g, cap, cur, hv, hbg, hg, rest⟩
  · exact .inl hn
  · exact .inr ⟨g, cap, cur, hv, hbg, (hb.block g (Array.getElem?_eq_some_iff.1 hg).1).trans hg, rest⟩

theorem OwnList.set {w : World} {B : Nat} {v : Value} {l : List (Int × Int)} (h : OwnList w B v l) {P : Nat} (hP : P < B) (i : Nat) (x : Value) : OwnList (w.setCell ⟨P, i, none⟩ x) B v l :=
  World.ownsRow.kept h (grown_set (grown_refl w P) i x) (Or.inr (fun e => by have := (World.ownsRow.lt h _ e).1; omega))

set_option maxRecDepth 100000 in
set_option maxHeartbeats 2000000 in
theorem specWith_any (base : Int) (a : Option Addr) (n cap : Nat) (f g : Nat → Int) (cat level : Int) (w : World) (hn : n ≤ maxLen) (hc : CatsAt w a n f g) :
    Calls Try.prog 13 #[.agg #[.int .i64 base, .slice a n cap], .int .i64 cat, .int .i64 level] w fun e w' => WithPost base n f g cat level w e w' := by
  have hb0 := ((Below.refl _ w).alloc (Nat.le_refl _) (.cells #[.int .i64 base, .slice a n cap] 26)).alloc (by simp) (.cells #[.int .i64 0, .slice none 0 0] 26)
  have X0 : Blk ((w.alloc (.cells #[.int .i64 base, .slice a n cap] 26)).alloc (.cells #[.int .i64 0, .slice none 0 0] 26)) w.heap.size (.cells #[.int .i64 base, .slice a n cap] 26) := (Blk.new w _).alloc _
  have Y0 : Blk ((w.alloc (.cells #[.int .i64 base, .slice a n cap] 26)).alloc (.cells #[.int .i64 0, .slice none 0 0] 26)) (w.heap.size + 1) (.cells #[.int .i64 0, .slice none 0 0] 26) := by
    have := Blk.new (w.alloc (.cells #[.int .i64 base, .slice a n cap] 26)) (.cells #[.int .i64 0, .slice none 0 0] 26)
    simpa using this
  go_enter Try.func13, Try.ntmps13
  go_wp2_with fail
  refine (specOk_any _ _ _ _ f g _ hn (hc.below hb0)).mono ?_
  rintro e w1 ⟨rfl, hb1⟩
  have X1 := X0.below hb1
  have Y1 := Y0.below hb1
  have B1 : Below w.heap.size w w1 := hb0.trans (hb1.mono (by simp; omega))
  obtain ⟨x1, x2⟩ := X1.two
  obtain ⟨y1, y2⟩ := Y1.two
  have yf0 := Y1.frozen2 0
  have yf1 := Y1.frozen2 1
  have lY := Y1.lt
  clear hb0 hb1 X0 Y0
  have nope : ∀ v : World, withOk base n f g cat level = false → Below w.heap.size w v → WithPost base n f g cat level w (.returned (.tuple #[.agg #[.int .i64 0, .slice none 0 0], .bool false])) v := fun v h1 h2 => withPost_no h1 h2
  have NP : Hid (∀ v : World, withOk base n f g cat level = false → Below w.heap.size w v → WithPost base n f g cat level w (.returned (.tuple #[.agg #[.int .i64 0, .slice none 0 0], .bool false])) v) := nope
  clear nope
  by_cases t0 : labOk base n f g = true
  · by_cases t1 : inB cat 1 9999 = true
    · by_cases t2 : inB level 0 3 = true
      · have hn' : n ≤ 1048576 := by have := (labOk_out t0).2.1; omega
        go_wp2_with (go_at_call 46; refine (l1In_any _ _ _ _).mono ?_; rintro e w' ⟨rfl, rfl⟩)
        refine (l1With_any _ _ _ _ f g _ _ _ hn' (hc.below B1)).mono ?_
        rintro e w2 ⟨va, vc, rfl, ho, hb2⟩
        have lok := labOk_list (labOk_out t0).1 (insFin_spec (base := base) (g := g) (cat := cat) (level := level) (rising (labOk_out t0).2.2)).1 (ins_parts t0 t1 t2)
        have HW : Hid (withOk base n f g cat level = decide ((insFin base n f g cat level).length ≤ 12)) := by show _ = _; simp [withOk, t0, t1, t2]
        have hlen := insFin_len base n f g cat level
        have YES : Hid (∀ v : World, withOk base n f g cat level = true → Below w.heap.size w v → OwnList v w.heap.size (.slice va (insFin base n f g cat level).length vc) (insFin base n f g cat level) → WithPost base n f g cat level w (.returned (.tuple #[.agg #[.int .i64 base, .slice va (insFin base n f g cat level).length vc], .bool true])) v) := fun v h1 h2 h3 => withPost_yes h1 h2 h3
        generalize insFin base n f g cat level = L at *
        have l2 : w.heap.size + 1 < w2.heap.size := Nat.lt_of_lt_of_le lY hb2.size
        have Y2 := (Y1.below hb2).alloc (.cells #[.int .i64 base, .slice va L.length vc] 26)
        have Z2 := Blk.new w2 (.cells #[.int .i64 base, .slice va L.length vc] 26)
        have K2 := (Below.refl _ w2).alloc (Nat.le_refl _) (.cells #[.int .i64 base, .slice va L.length vc] 26)
        have B2 : Below w.heap.size w w2 := B1.trans (hb2.mono B1.size)
        have ho2 := OwnList.below ho K2
        have hc2 : CatsAt (w2.alloc (.cells #[.int .i64 base, .slice va L.length vc] 26)) va L.length (fstAt L) (sndAt L) := OwnCats.cats ho2
        have B2' : Below w.heap.size w (w2.alloc (.cells #[.int .i64 base, .slice va L.length vc] 26)) := B2.alloc B2.size _
        clear x1 x2 y1 y2 yf0 yf1 ho K2 hb2 X1 Y1 hc
        go_wp2_with fail
        refine (specOk_any _ _ _ _ (fstAt L) (sndAt L) _ (by unfold maxLen; omega) hc2).mono ?_
        rintro e w3 ⟨rfl, hb3⟩
        have Y3 := Y2.below hb3
        have Z3 := Z2.below hb3
        have B3 : Below w.heap.size w w3 := B2'.trans (hb3.mono B2'.size)
        have ho3 := OwnList.below ho2 hb3
        obtain ⟨y1, y2⟩ := Y3.two
        have yf0 := Y3.frozen2 0
        have yf1 := Y3.frozen2 1
        obtain ⟨z1, z2⟩ := Z3.two
        have lne : w2.heap.size ≠ w.heap.size + 1 := by omega
        rw [lok]
        clear lok hc2 ho2 Y2 Z2 B2'
        by_cases t3 : L.length ≤ 12
        · have t3' : decide (L.length ≤ 12) = true := by simpa using t3
          rw [t3'] at HW ⊢
          go_wp2
          refine bodyPost_ret (v := .tuple #[.agg #[.int .i64 base, .slice va L.length vc], .bool true]) (by simp [results, Try.results13, go_sem, *]) rfl (YES.out _ HW.out ((B3.setCell (by dsimp only; omega) _).setCell (by dsimp only; omega) _) ?_)
          exact ownsRow_base_a (OwnList.set (OwnList.set ho3 lY _ _) lY _ _) (by omega)
        · have t3' : decide (L.length ≤ 12) = false := by simpa using t3
          rw [t3'] at HW ⊢
          go_wp2
          exact bodyPost_ret (v := .tuple #[.agg #[.int .i64 0, .slice none 0 0], .bool false]) (by simp [results, Try.results13, go_sem, *]) rfl (NP.out _ HW.out ((B3.setCell (by dsimp only; omega) _).setCell (by dsimp only; omega) _))
      · have t2' : inB level 0 3 = false := by simpa using t2
        have HW : Hid (withOk base n f g cat level = false) := by show _ = _; simp [withOk, t2']
        clear t2
        go_wp2_with (go_at_call 46; refine (l1In_any _ _ _ _).mono ?_; rintro e w' ⟨rfl, rfl⟩)
        exact bodyPost_ret (v := .tuple #[.agg #[.int .i64 0, .slice none 0 0], .bool false]) (by simp [results, Try.results13, go_sem, *]) rfl (NP.out _ HW.out ((B1.setCell (by dsimp only; omega) _).setCell (by dsimp only; omega) _))
    · have t1' : inB cat 1 9999 = false := by simpa using t1
      have HW : Hid (withOk base n f g cat level = false) := by show _ = _; simp [withOk, t1']
      clear t1
      go_wp2_with (go_at_call 46; refine (l1In_any _ _ _ _).mono ?_; rintro e w' ⟨rfl, rfl⟩)
      exact bodyPost_ret (v := .tuple #[.agg #[.int .i64 0, .slice none 0 0], .bool false]) (by simp [results, Try.results13, go_sem, *]) rfl (NP.out _ HW.out ((B1.setCell (by dsimp only; omega) _).setCell (by dsimp only; omega) _))
  · have t0' : labOk base n f g = false := by simpa using t0
    have HW : Hid (withOk base n f g cat level = false) := by show _ = _; simp [withOk, t0']
    clear t0
    go_wp2
    exact bodyPost_ret (v := .tuple #[.agg #[.int .i64 0, .slice none 0 0], .bool false]) (by simp [results, Try.results13, go_sem, *]) rfl (NP.out _ HW.out ((B1.setCell (by dsimp only; omega) _).setCell (by dsimp only; omega) _))
end Go.Proofs.Ytjolkbcnglhebaa
