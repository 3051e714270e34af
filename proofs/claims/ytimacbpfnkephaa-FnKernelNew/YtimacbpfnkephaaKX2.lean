/- Copies that the program makes: texts, labels, threads. -/
import Derived.Test.YtimacbpfnkephaaKX1
import Derived.Deep.RegionLaw
namespace Go.Proofs.Ytimacbpfnkephaa
open Go Go.RowKit Go.Deep Go.Maps

set_option maxRecDepth 100000 in
set_option maxHeartbeats 2000000 in
theorem copiedStr_any (c : StrL) (w : World) (hc : c.at w) (hn : c.n ≤ 1048576) :
    Calls Try.prog 30 #[c.val] w fun e w' => ∃ d : StrL, e = .returned d.val ∧ c.same d ∧ d.new w.heap.size w' ∧ Below w.heap.size w w' := by
  obtain ⟨a, n, cap, f⟩ := c
  obtain ⟨hm, hc, hz⟩ := hc
  unfold StrL.val
  simp only at hm hc hn hz ⊢
  have L := hid (strs_lies hc)
  have HZ := hid hz
  clear hc hz
  go_enter Try.func30, Try.ntmps30
  go_wp2_with (refine wpList_append_any Try.underlying34 Try.info9 rfl (by omega) _ rfl _ _ rfl w.heap.size (.slice none 0 0) 0 [] rfl (World.ownsRow_nil _ _ _ _) a n cap ((List.range n).map (fun i => Value.string (f i))) rfl (by simp) L.out (fun u hu => by obtain ⟨y, _, rfl⟩ := List.mem_map.1 hu; rfl) (by omega) (by omega) (Nat.le_refl _) ?_; intro a3 c3 w3 o3 g3; rw [Nat.zero_add, List.nil_append] at o3; rw [Nat.zero_add])
  go_ret
  have hi : StrAt w3 a3 n f := fun h0 => by
    obtain ⟨b, off, e, hlt, hcc⟩ := LiesC.own o3 h0
    exact ⟨b, off, e, hlt, fun i hi => hcc i _ (by simp [hi])⟩
  exact ⟨⟨a3, n, c3, f⟩, rfl, ⟨rfl, rfl⟩, ⟨⟨hm, hi, HZ.out⟩, fun h0 => by have := row_of_own o3 h0; simpa using this⟩, below_grown g3 (Nat.le_refl _) (fun j hj => by cases hj)⟩

theorem CatL.new.of {B : Nat} {w w' : World} {c : CatL} (h : c.new B w) (hs : w.heap.size ≤ w'.heap.size) (hb : ∀ b, c.a = some ⟨b, 0, none⟩ → 0 < c.n → w'.heap[b]? = w.heap[b]?) : c.new B w' :=
  ⟨⟨h.1.1, fun hn => by
    obtain ⟨b, off, e, hlt, hc⟩ := h.1.2 hn
    obtain ⟨b', _, _, e', _⟩ := h.2 hn
    have eb := e.symm.trans e'
    cases eb
    have ce : ∀ o, w'.cell? ⟨b, o, none⟩ = w.cell? ⟨b, o, none⟩ := fun o => World.cell?_of_block (a := ⟨b, o, none⟩) (hb b e' hn)
    exact ⟨b, 0, e, Nat.lt_of_lt_of_le hlt hs, fun i hi => by rw [ce, ce]; exact hc i hi⟩⟩, fun hn => by
    obtain ⟨b, m, F, e, h1, h2, h3⟩ := h.2 hn
    exact ⟨b, m, F, e, h1, h2, h3.of_block (hb b e hn)⟩⟩
theorem CatL.new.ne {B : Nat} {w : World} {c : CatL} (h : c.new B w) {P t : Nat} {cs : Array Value} (hP : Blk w P (.cells cs t)) (ht : t ≠ 80) : ∀ b, c.a = some ⟨b, 0, none⟩ → 0 < c.n → b ≠ P := fun b e hn => by
  obtain ⟨b', m, F, e', _, _, h3⟩ := h.2 hn
  rw [e] at e'
  cases e'
  exact row_ne h3 hP.row (fun e => ht e.symm)
theorem IntL.new.of {B : Nat} {w w' : World} {c : IntL} (h : c.new B w) (hs : w.heap.size ≤ w'.heap.size) (hb : ∀ b, c.a = some ⟨b, 0, none⟩ → 0 < c.n → w'.heap[b]? = w.heap[b]?) : c.new B w' :=
  ⟨⟨h.1.1, fun hn => by
    obtain ⟨b, off, e, hlt, hc⟩ := h.1.2 hn
    obtain ⟨b', _, _, e', _⟩ := h.2 hn
    have eb := e.symm.trans e'
    cases eb
    have ce : ∀ o, w'.cell? ⟨b, o, none⟩ = w.cell? ⟨b, o, none⟩ := fun o => World.cell?_of_block (a := ⟨b, o, none⟩) (hb b e' hn)
    exact ⟨b, 0, e, Nat.lt_of_lt_of_le hlt hs, fun i hi => by rw [ce]; exact hc i hi⟩⟩, fun hn => by
    obtain ⟨b, m, F, e, h1, h2, h3⟩ := h.2 hn
    exact ⟨b, m, F, e, h1, h2, h3.of_block (hb b e hn)⟩⟩
theorem IntL.new.ne {B : Nat} {w : World} {c : IntL} (h : c.new B w) {P t : Nat} {cs : Array Value} (hP : Blk w P (.cells cs t)) (ht : t ≠ 2) : ∀ b, c.a = some ⟨b, 0, none⟩ → 0 < c.n → b ≠ P := fun b e hn => by
  obtain ⟨b', m, F, e', _, _, h3⟩ := h.2 hn
  rw [e] at e'
  cases e'
  exact row_ne h3 hP.row (fun e => ht e.symm)
theorem StrL.new.of {B : Nat} {w w' : World} {c : StrL} (h : c.new B w) (hs : w.heap.size ≤ w'.heap.size) (hb : ∀ b, c.a = some ⟨b, 0, none⟩ → 0 < c.n → w'.heap[b]? = w.heap[b]?) : c.new B w' :=
  ⟨⟨h.1.1, fun hn => by
    obtain ⟨b, off, e, hlt, hc⟩ := h.1.2.1 hn
    obtain ⟨b', _, _, e', _⟩ := h.2 hn
    have eb := e.symm.trans e'
    cases eb
    have ce : ∀ o, w'.cell? ⟨b, o, none⟩ = w.cell? ⟨b, o, none⟩ := fun o => World.cell?_of_block (a := ⟨b, o, none⟩) (hb b e' hn)
    exact ⟨b, 0, e, Nat.lt_of_lt_of_le hlt hs, fun i hi => by rw [ce]; exact hc i hi⟩, h.1.2.2⟩, fun hn => by
    obtain ⟨b, m, F, e, h1, h2, h3⟩ := h.2 hn
    exact ⟨b, m, F, e, h1, h2, h3.of_block (hb b e hn)⟩⟩
theorem StrL.new.ne {B : Nat} {w : World} {c : StrL} (h : c.new B w) {P t : Nat} {cs : Array Value} (hP : Blk w P (.cells cs t)) (ht : t ≠ 9) : ∀ b, c.a = some ⟨b, 0, none⟩ → 0 < c.n → b ≠ P := fun b e hn => by
  obtain ⟨b', m, F, e', _, _, h3⟩ := h.2 hn
  rw [e] at e'
  cases e'
  exact row_ne h3 hP.row (fun e => ht e.symm)

theorem results73 (tmps : Array Value) (W : World) (P : Nat) (x y : Value) (h : Blk W P (.cells #[x, y] 33)) (h2 : tmps[2]? = some (.pointer (some ⟨P, 0, none⟩))) :
    (results Try.f28 tmps).run Try.prog W = .ok (.agg #[x, y]) W := by
  obtain ⟨z0, z1⟩ := h.two
  simp [results, Try.results28, go_sem, h2, z0, z1]

set_option maxRecDepth 100000 in
set_option maxHeartbeats 2000000 in
theorem copiedLabel_any (b : Int) (c : CatL) (w : World) (hc : c.at w) (hn : c.n ≤ 1048576) :
    Calls Try.prog 28 #[.agg #[.int .i64 b, c.val]] w fun e w' => ∃ d : CatL, e = .returned (.agg #[.int .i64 b, d.val]) ∧ c.same d ∧ d.new w.heap.size w' ∧ Below w.heap.size w w' := by
  have b0 : Below w.heap.size w ((w.alloc (.cells #[.int .i64 b, c.val] 33)).alloc (.cells #[.int .i64 0, .slice none 0 0] 33)) := ((Below.refl _ w).alloc (Nat.le_refl _) _).alloc (by simp) _
  have A0 := (Blk.new w (.cells #[.int .i64 b, c.val] 33)).alloc (.cells #[.int .i64 0, .slice none 0 0] 33)
  have R0 : Blk ((w.alloc (.cells #[.int .i64 b, c.val] 33)).alloc (.cells #[.int .i64 0, .slice none 0 0] 33)) (w.heap.size + 1) (.cells #[.int .i64 0, .slice none 0 0] 33) := by
    have := Blk.new (w.alloc (.cells #[.int .i64 b, c.val] 33)) (.cells #[.int .i64 0, .slice none 0 0] 33)
    simpa using this
  have C1 := hid (copiedCat_any c _ (hc.below b0) hn)
  obtain ⟨x0, x1⟩ := A0.two
  clear hc
  go_enter Try.func28, Try.ntmps28
  go_wp2_with fail
  refine C1.out.mono ?_
  rintro e w1 ⟨d, rfl, hs, hd, hb1⟩
  have A1 := A0.below hb1
  have R1 := R0.below hb1
  have B1 := then_ b0 hb1
  have HD := hid (hd.low b0.size)
  have HS := hid hs
  obtain ⟨x0', x1'⟩ := A1.two
  obtain ⟨y0, y1⟩ := R1.two
  have xf := A1.warm
  have yf := R1.warm
  have ne1 : ¬ w.heap.size = w.heap.size + 1 := by omega
  have ne2 : ¬ w.heap.size + 1 = w.heap.size := by omega
  clear hs hd C1 x0 x1 A0 R0 b0 hb1
  unfold CatL.val at x1' ⊢
  go_wp2
  refine bodyPost_ret (results73 _ _ (w.heap.size + 1) (.int .i64 b) (.slice d.a d.n d.k) (((R1.other (Q := w.heap.size) (i := 1) (by omega) _).setAt (i := 0) _).setAt (i := 1) _) rfl) rfl ⟨d, rfl, HS.out, ?_, ?_⟩
  · refine HD.out.of (by simp) (fun g hg hn' => ?_)
    have n1 := HD.out.ne A1 (by decide) g hg hn'
    have n2 := HD.out.ne R1 (by decide) g hg hn'
    rw [blk_setCell_other _ _ _ _ (by dsimp only; omega), blk_setCell_other _ _ _ _ (by dsimp only; omega), blk_setCell_other _ _ _ _ (by dsimp only; omega)]
  · exact ((B1.setCell (by dsimp only; omega) _).setCell (by dsimp only; omega) _).setCell (by dsimp only; omega) _
end Go.Proofs.Ytimacbpfnkephaa
