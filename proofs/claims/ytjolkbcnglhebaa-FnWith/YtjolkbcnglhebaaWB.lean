/- The walk of label: the categories whose level is not the base, rising. -/
import Derived.Test.YtjolkbcnglhebaaWA
import Derived.Test.YtjolkbcnglhebaaY
namespace Go.Proofs.Ytjolkbcnglhebaa
open Go.RowKit Go.Deep Go.Maps

theorem grown_trans {a b c : World} {P : Nat} {row : Option Nat} (h : a.grownBy b (some P)) (k : b.grownBy c row) (hr : ∀ j, row = some j → a.heap.size ≤ j) : a.grownBy c (some P) :=
  ⟨k.os.trans h.os, k.tape.trans h.tape, k.output.trans h.output, Nat.le_trans h.size k.size, fun j hj hne => (k.block j (Nat.lt_of_lt_of_le hj h.size) (fun e => by have := hr j e.symm; omega)).trans (h.block j hj hne)⟩
theorem grown_set {a b : World} {P : Nat} (h : a.grownBy b (some P)) (i : Nat) (v : Value) : a.grownBy (b.setCell ⟨P, i, none⟩ v) (some P) :=
  ⟨h.os, h.tape, h.output, by rw [nblk_setCell]; exact h.size, fun j hj hne => (blk_setCell_other _ _ _ _ (by dsimp only; intro e; exact hne (by rw [e]))).trans (h.block j hj hne)⟩
theorem grown_refl (a : World) (P : Nat) : a.grownBy a (some P) := ⟨rfl, rfl, rfl, Nat.le_refl _, fun _ _ _ => rfl⟩
theorem Blk.set1 {W : World} {P t : Nat} {x y : Value} (h : Blk W P (.cells #[x, y] t)) (v : Value) : Blk (W.setCell ⟨P, 1, none⟩ v) P (.cells #[x, v] t) := by
  unfold Blk at *
  simp [World.setCell, Array.getElem?_modify, h]
theorem Blk.grown {W W' : World} {P : Nat} {o : Obj} {row : Option Nat} (h : Blk W P o) (hg : W.grownBy W' row) (hne : some P ≠ row) : Blk W' P o := (hg.block P h.lt hne).trans h
theorem Blk.frozen2 {W : World} {P t : Nat} {x y : Value} (h : Blk W P (.cells #[x, y] t)) (i : Nat) : W.frozen? ⟨P, i, none⟩ = false := by
  unfold Blk at h
  simp [World.frozen?, h]
theorem OwnCats.alloc {w : World} {B n : Nat} {v : Value} {f g : Nat → Int} (h : OwnCats w B v n f g) (o : Obj) : OwnCats (w.alloc o) B v n f g := World.ownsRow.alloc h o
theorem one_cat (w : World) (x y : Int) : CatsAt (w.alloc (.cells #[.int .i64 x, .int .i64 y] 72)) (some ⟨w.heap.size, 0, none⟩) 1 (fun _ => x) (fun _ => y) := fun _ => by
  obtain ⟨h1, h2⟩ := Blk.two (Blk.new w (.cells #[.int .i64 x, .int .i64 y] 72))
  refine ⟨w.heap.size, 0, rfl, by simp, fun i hi => ?_⟩
  obtain rfl : i = 0 := by omega
  exact ⟨h1, h2⟩

set_option maxRecDepth 100000 in
set_option maxHeartbeats 2000000 in
theorem label_any (base : Int) (c nn : Nat) (m : Int → Option Int) (w : World) (hm : MapIs w c nn m) (hnn : nn ≤ 1048576) :
    Calls Try.prog 44 #[.agg #[.int .i64 base, .map (some c)]] w fun e w' => ∃ (n : Nat) (h : Nat → Int), (∀ x, (∃ i, i < n ∧ h i = x) ↔ (m x).isSome = true) ∧ (∀ j, j < n → ∀ i, i < j → h i < h j) ∧ n ≤ nn ∧
      ((12 < (fltTo base m h n).length ∧ e = .returned (.tuple #[.agg #[.int .i64 0, .slice none 0 0], .bool false])) ∨
       ((fltTo base m h n).length ≤ 12 ∧ ∃ a k, e = .returned (.tuple #[.agg #[.int .i64 base, .slice a (fltTo base m h n).length k], .bool true]) ∧ OwnList w' w.heap.size (.slice a (fltTo base m h n).length k) (fltTo base m h n))) ∧ Below w.heap.size w w' := by
  have hb0 := (((Below.refl _ w).alloc (Nat.le_refl _) (.cells #[.int .i64 base, .map (some c)] 66)).alloc (by simp) (.cells #[.int .i64 0, .slice none 0 0] 26)).alloc (by simp; omega) (.cells #[.int .i64 base, .slice none 0 0] 26)
  have m0 := hm.below hb0
  have X0 : Blk (((w.alloc (.cells #[.int .i64 base, .map (some c)] 66)).alloc (.cells #[.int .i64 0, .slice none 0 0] 26)).alloc (.cells #[.int .i64 base, .slice none 0 0] 26)) w.heap.size (.cells #[.int .i64 base, .map (some c)] 66) := ((Blk.new w _).alloc _).alloc _
  have Y0 : Blk (((w.alloc (.cells #[.int .i64 base, .map (some c)] 66)).alloc (.cells #[.int .i64 0, .slice none 0 0] 26)).alloc (.cells #[.int .i64 base, .slice none 0 0] 26)) (w.heap.size + 1) (.cells #[.int .i64 0, .slice none 0 0] 26) := by
    have := (Blk.new (w.alloc (.cells #[.int .i64 base, .map (some c)] 66)) (.cells #[.int .i64 0, .slice none 0 0] 26)).alloc (.cells #[.int .i64 base, .slice none 0 0] 26)
    simpa using this
  have Z0 : Blk (((w.alloc (.cells #[.int .i64 base, .map (some c)] 66)).alloc (.cells #[.int .i64 0, .slice none 0 0] 26)).alloc (.cells #[.int .i64 base, .slice none 0 0] 26)) (w.heap.size + 1 + 1) (.cells #[.int .i64 base, .slice none 0 0] 26) := by
    have := Blk.new ((w.alloc (.cells #[.int .i64 base, .map (some c)] 66)).alloc (.cells #[.int .i64 0, .slice none 0 0] 26)) (.cells #[.int .i64 base, .slice none 0 0] 26)
    simpa using this
  go_enter Try.func44, Try.ntmps44
  go_wp2_with fail
  obtain ⟨W0, hW0⟩ : ∃ W0, (((w.alloc (.cells #[.int .i64 base, .map (some c)] 66)).alloc (.cells #[.int .i64 0, .slice none 0 0] 26)).alloc (.cells #[.int .i64 base, .slice none 0 0] 26)) = W0 := ⟨_, rfl⟩
  rw [hW0] at hb0 m0 X0 Y0 Z0 ⊢
  have hcl := hm.lt
  clear hW0 hm
  refine (keys_any _ _).mono ?_
  rintro e w1 ⟨rfl, rfl⟩
  go_wp2_with fail
  refine (sorted_any _ _ _ _ m0.keys (by omega)).mono ?_
  rintro e w4 ⟨a, n, cap, h, rfl, hle, hat, hmem, hris, hwf, hnew, hb4⟩
  have X4 := X0.below hb4
  have Y4 := Y0.below hb4
  have Z4 := Z0.below hb4
  have M4 := m0.below hb4
  have L4 : Below w.heap.size w w4 := hb0.trans (hb4.mono hb0.size)
  have HM : Hid (∀ x, (∃ i, i < n ∧ h i = x) ↔ (m x).isSome = true) := hmem
  have HR : Hid (∀ j, j < n → ∀ i, i < j → h i < h j) := hris
  have HWF : Hid (∀ i, i < n → (Lit.int .i64 (h i)).wf = true) := hwf
  have lz0 := Z0.lt
  clear hb0 m0 X0 Y0 Z0 hb4 hmem hris hwf
  go_wp2
  go_loopw [16] (fun i wr => ∃ (k : Nat) (v : Value), k ≤ n ∧ i = .int .i64 k ∧ Blk wr (w.heap.size + 1 + 1) (.cells #[.int .i64 base, v] 26) ∧ OwnList wr w4.heap.size v (fltTo base m h k) ∧ w4.grownBy wr (some (w.heap.size + 1 + 1))) (fun i _ => n - (intOf i).toNat)
  case atStart => exact ⟨0, _, Nat.zero_le _, rfl, Z4, OwnCats.nil _ _ _ _, grown_refl _ _⟩
  case round =>
    obtain ⟨k, v, hk, rfl, hZ, hO, hg⟩ := hrel
    have lz := Z4.lt
    have r1 : wr.cell? ⟨w.heap.size, 0, none⟩ = some (.int .i64 base) := (grown_cell hg X4.lt (by omega)).trans X4.two.1
    have r2 : wr.cell? ⟨w.heap.size, 1, none⟩ = some (.map (some c)) := (grown_cell hg X4.lt (by omega)).trans X4.two.2
    obtain ⟨r3, r4⟩ := hZ.two
    by_cases hlt' : k < n
    · obtain ⟨b, off, rfl, hlt, hcc⟩ := hat (by omega)
      have hbn : w.heap.size + 1 + 1 < b := by have := hnew _ rfl; dsimp only at this; omega
      have r5 : wr.cell? ⟨b, off + k, none⟩ = some (.int .i64 (h k)) := (grown_cell hg hlt (by omega)).trans (hcc k hlt')
      obtain ⟨D, hown, hD, hall⟩ := M4.of_block (hg.block c M4.lt (by simp; omega))
      obtain ⟨val, hval⟩ : ∃ val, m (h k) = some val := Option.isSome_iff_exists.1 ((HM.out (h k)).1 ⟨k, hlt', rfl⟩)
      have hv := (hall (h k)).2 val hval
      have hkey : keyOf Try.prog 2 (.int .i64 (h k)) = some (.int .i64 (h k)) := keyOf_int_mk Try.underlying2 (HWF.out k hlt')
      have HV : Hid (∀ cc : Int, D.atKey (.int .i64 (h k)) (.lit (.int .i64 0)) = .lit (.int .i64 cc) → cc = val) := fun cc hc => by
        have := hv.symm.trans hc
        simpa using this.symm
      have HVAL : Hid (m (h k) = some val) := hval
      have hf1 := hZ.frozen2 1
      have lens := fltTo_len base m h k
      have HO : Hid (OwnList wr w4.heap.size v (fltTo base m h k)) := hO
      have hw4 := hg.size
      clear hcc hall hv hval hO
      by_cases t : (val == base) = true
      · go_wp2_with (at_lookup; refine wpList_lookup_own_int _ rfl _ _ 64 rfl 2 2 .i64 keyed2 Try.underlying64 Try.underlying2 (zero2 _) c nn _ rfl hown _ _ rfl hkey ?_; intro cc hcc hwc; obtain rfl := HV.out cc hcc)
        have ek : fltTo base m h (k + 1) = fltTo base m h k := by
          have tb : cc = base := by simpa using t
          simp only [fltTo, HVAL.out, Option.getD_some]; rw [if_pos tb]
        go_roundw
        case rel => exact ⟨k + 1, v, by omega, by go_num, hZ, by rw [ek]; exact HO.out, hg⟩
        case measure => simp [intOf]; omega
      · have t' : (val == base) = false := by simpa using t
        clear t
        have tb : ¬ val = base := by simpa using t'
        have HEK : Hid (fltTo base m h (k + 1) = fltTo base m h k ++ [(h k, val)]) := by
          show _ = _
          simp only [fltTo, HVAL.out, Option.getD_some]; rw [if_neg tb]
        clear tb
        have HNE : Hid (some (w.heap.size + 1 + 1) ≠ v.ownBlock) := fun e => by have := (World.ownsRow.lt HO.out _ e.symm).1; omega
        go_wp2_with (first
          | (at_lookup; refine wpList_lookup_own_int _ rfl _ _ 64 rfl 2 2 .i64 keyed2 Try.underlying64 Try.underlying2 (zero2 _) c nn _ rfl hown _ _ rfl hkey ?_; intro cc hcc hwc; obtain rfl := HV.out cc hcc)
          | (at_builtin; refine wpList_append_cats _ rfl _ _ rfl w4.heap.size _ _ _ _ rfl (OwnCats.alloc HO.out _) _ 1 1 (fun _ => h k) (fun _ => cc) rfl (one_cat _ _ _) (by omega) (by simp; omega) ?_; intro a' c' w' hown' hgrow' hat'; have hZ' := (hZ.alloc (.cells #[.int .i64 (h k), .int .i64 cc] 72)).grown hgrow' (HNE.out); obtain ⟨p1, p2⟩ := hZ'.two; have pf := hZ'.frozen2 1))
        have hgN : w4.grownBy w' (some (w.heap.size + 1 + 1)) := grown_trans (grown_trans hg (World.grownBy_alloc wr _ none) (fun j e => by cases e)) hgrow' (fun j e => (World.ownsRow.lt HO.out j e).1)
        go_roundw
        case rel =>
          refine ⟨k + 1, _, by omega, by go_num, hZ'.set1 _, ?_, grown_set hgN _ _⟩
          rw [HEK.out]
          have hs := OwnList.snoc hown'
          exact World.ownsRow.kept hs (grown_set (grown_refl w' _) _ _) (Or.inr (fun e => by have := (World.ownsRow.lt hs _ e).1; omega))
        case measure => simp [intOf]; omega
    · have HO : Hid (OwnList wr w4.heap.size v (fltTo base m h k)) := hO
      obtain ⟨va, vc, rfl⟩ := OwnCats.shape hO
      have hf0 := Y4
      have y0 : wr.cell? ⟨w.heap.size + 1, 0, none⟩ = some (.int .i64 0) := (grown_cell hg Y4.lt (by omega)).trans Y4.two.1
      have y1 : wr.cell? ⟨w.heap.size + 1, 1, none⟩ = some (.slice none 0 0) := (grown_cell hg Y4.lt (by omega)).trans Y4.two.2
      have fz0 : wr.frozen? ⟨w.heap.size + 1, 0, none⟩ = false := (grown_frozen hg Y4.lt (by omega)).trans (Y4.frozen2 0)
      have fz1 : wr.frozen? ⟨w.heap.size + 1, 1, none⟩ = false := (grown_frozen hg Y4.lt (by omega)).trans (Y4.frozen2 1)
      have e : k = n := by omega
      subst e
      have LW : Below w.heap.size w wr := L4.grown hg L4.size (fun j e => by cases e; omega)
      clear hO hat hf0
      by_cases t : 12 < (fltTo base m h k).length
      · have t' : (12 : Int) < ((fltTo base m h k).length : Int) := by omega
        go_wp2
        refine bodyPost_ret (v := .tuple #[.agg #[.int .i64 0, .slice none 0 0], .bool false]) (by simp [results, Try.results44, go_sem, *]) rfl ⟨k, h, HM.out, HR.out, hle, .inl ⟨t, rfl⟩, ?_⟩
        exact (LW.setCell (by dsimp only; omega) _).setCell (by dsimp only; omega) _
      · have t' : ¬ (12 : Int) < ((fltTo base m h k).length : Int) := by omega
        go_wp2
        refine bodyPost_ret (v := .tuple #[.agg #[.int .i64 base, .slice va (fltTo base m h k).length vc], .bool true]) (by simp [results, Try.results44, go_sem, *]) rfl ⟨k, h, HM.out, HR.out, hle, .inr ⟨by omega, va, vc, rfl, ?_⟩, ?_⟩
        · have hs := HO.out
          have h1 := World.ownsRow.kept hs (grown_set (grown_set (grown_refl wr (w.heap.size + 1)) 0 (.int .i64 base)) 1 (.slice va (fltTo base m h k).length vc)) (Or.inr (fun e => by have := (World.ownsRow.lt hs _ e).1; omega))
          exact ownsRow_base_a h1 (by have := L4.size; omega)
        · exact (LW.setCell (by dsimp only; omega) _).setCell (by dsimp only; omega) _
end Go.Proofs.Ytjolkbcnglhebaa
