/- ReadLabel of the model. -/
import Derived.Test.YthbmfbnnemgbpaaGreatDoorZ11
namespace Go.Proofs.YthbmfbnnemgbpaaGreatDoor
open Go.RowKit Go.Deep Go.Maps
def Keeps (S : List UInt8) (base : Int) (G : Option (List (Int × Int))) (R : List UInt8) (mo : Bool) (l : List (Int × Int)) : Prop :=
 (l.length ≤ 12 → gather (12 - l.length) R mo l = G) ∧ (l.length = 13 → G = none) ∧ S = txt base l ++ (if mo = true then 44 :: R else [])
theorem Keeps.next {S : List UInt8} {base : Int} {G : Option (List (Int × Int))} {R : List UInt8} {l : List (Int × Int)} (h : Keeps S base G R true l) (hl : l.length ≤ 12) (hc : catOkL (cutL 44 R).1 = true) :
 Keeps S base G (cutL 44 R).2.1 (cutL 44 R).2.2 (l ++ [catL (cutL 44 R).1]) := by
 obtain ⟨h1, _, h3⟩ := h
 have h1 := h1 hl
 refine ⟨fun h => ?_, fun h => ?_, ?_⟩
 ·rw [List.length_append] at h ⊢
  have h' : l.length + 1 ≤ 12 := h
  obtain ⟨q, hq⟩ : ∃ q, 12 - l.length = q + 1 := ⟨12 - l.length - 1, by omega⟩
  rw [hq, gather_next q R l hc] at h1
  have e : 12 - (l.length + [catL (cutL 44 R).1].length) = q := by simp only [List.length_singleton]; omega
  rw [e]
  exact h1
 ·rw [List.length_append] at h
  have h' : l.length = 12 := by simp at h; omega
  rw [h', Nat.sub_self] at h1
  exact h1.symm
 ·rw [txt_snoc, catText_ok hc, h3, if_pos rfl, List.append_assoc, List.cons_append, ← cutL_join]
theorem Keeps.bad {S : List UInt8} {base : Int} {G : Option (List (Int × Int))} {R : List UInt8} {l : List (Int × Int)} (h : Keeps S base G R true l) (hl : l.length ≤ 12) (hc : catOkL (cutL 44 R).1 = false) : G = none := by
 rw [← h.1 hl, gather_bad _ _ _ hc]
theorem Keeps.start {S : List UInt8} (ho : okD (cutL 44 S).1 = true) : Keeps S (numL (cutL 44 S).1) (gather 12 (cutL 44 S).2.1 (cutL 44 S).2.2 []) (cutL 44 S).2.1 (cutL 44 S).2.2 [] := by
 refine ⟨fun _ => rfl, fun h => by simp at h, ?_⟩
 have : txt (numL (cutL 44 S).1) [] = (cutL 44 S).1 := by
  unfold numL
  rw [if_pos ho]
  simp only [txt, List.map_nil, List.flatten_nil, List.append_nil, Int.toNat_natCast]
  exact dec_ok ho
 rw [this]
 exact cutL_join 44 S
theorem txt_ne (base : Int) (l : List (Int × Int)) : txt base l ≠ [] := by
 unfold txt
 intro h
 have h1 := (List.append_eq_nil_iff.1 h).1
 by_cases hs : base.toNat < 10
 ·rw [decL_small hs] at h1; simp at h1
 ·rw [decL_big hs] at h1; simp at h1
theorem Keeps.yes {S : List UInt8} {base : Int} {G : Option (List (Int × Int))} {R : List UInt8} {mo : Bool} {l : List (Int × Int)} (h : Keeps S base G R mo l) (hx : mo = false ∨ l.length = 13) (hok : labOk base l.length (fstAt l) (sndAt l) = true) : fin base G = (base, l, true) ∧ ltext base l.length (fstAt l) (sndAt l) = S := by
 obtain ⟨h1, h2, h3⟩ := h
 have hl := (labOk_out hok).2.1
 have hm : mo = false := by
  rcases hx with e | e
  ·exact e
  ·omega
 subst hm
 have hg := h1 hl
 rw [gather_false] at hg
 refine ⟨by rw [← hg]; simp [fin, hok], ?_⟩
 unfold ltext
 rw [if_pos hok, catsTo_list, h3]
 simp
theorem Keeps.no {S : List UInt8} {base : Int} {G : Option (List (Int × Int))} {R : List UInt8} {mo : Bool} {l : List (Int × Int)} (h : Keeps S base G R mo l) (hx : mo = false ∨ l.length = 13) (hl : l.length ≤ 13) (hok : labOk base l.length (fstAt l) (sndAt l) = false) : fin base G = (0, [], false) ∧ ltext base l.length (fstAt l) (sndAt l) ≠ S := by
 obtain ⟨h1, h2, h3⟩ := h
 constructor
 ·by_cases h13 : l.length = 13
  ·rw [h2 h13]; rfl
  ·have hm : mo = false := by
    rcases hx with e | e
    ·exact e
    ·omega
   subst hm
   have hg := h1 (by omega)
   rw [gather_false] at hg
   rw [← hg]; simp [fin, hok]
 ·unfold ltext
  rw [if_neg (by rw [hok]; simp), h3]
  intro e
  exact txt_ne base l (List.append_eq_nil_iff.1 e.symm).1
set_option maxRecDepth 100000 in
set_option maxHeartbeats 4000000 in
theorem specRead_any (s : ByteArray) (w : World) (hn : s.size ≤ 1048576) :
 Calls Tryz.prog 33 #[.string s] w (RPost (readL s.data.toList) w) := by
 have hsl : s.data.toList.length ≤ 1048576 := by simpa using hn
 have L0 := (Below.refl _ w).alloc (Nat.le_refl _) (.cells #[.int .i64 0, .slice none 0 0] 26)
 have Z0 := Blk.new w (.cells #[.int .i64 0, .slice none 0 0] 26)
 have hl1 := cutL_len1 44 s.data.toList
 have hl2 := cutL_len2 44 s.data.toList
 obtain ⟨G, hG⟩ : ∃ G, (if okD (cutL 44 s.data.toList).1 = true then gather 12 (cutL 44 s.data.toList).2.1 (cutL 44 s.data.toList).2.2 [] else none) = G := ⟨_, rfl⟩
 have HR : Hid (readL s.data.toList = fin (numL (cutL 44 s.data.toList).1) G) := by
  show _ = _
  unfold readL
  rw [← hG]
  split <;> rfl
 have HK : Hid (okD (cutL 44 s.data.toList).1 = true → Keeps s.data.toList (numL (cutL 44 s.data.toList).1) G (cutL 44 s.data.toList).2.1 (cutL 44 s.data.toList).2.2 []) := fun ho => by
  rw [if_pos ho] at hG
  rw [← hG]
  exact Keeps.start ho
 have HN : Hid (okD (cutL 44 s.data.toList).1 = false → G = none) := fun ho => by
  rw [← hG, ho]; rfl
 clear hG
 generalize readL s.data.toList = res at *
 go_enter Tryz.func33, Tryz.ntmps33
 go_wp2_with fail
 refine (l1Cut_any s 44 _ (by unfold maxLen; omega)).mono ?_
 rintro e w1 ⟨rfl, hb1⟩
 have L1 : Below w.heap.size w w1 := L0.trans (hb1.mono L0.size)
 have Z1 := Z0.below hb1
 unfold cutV
 generalize (cutL 44 s.data.toList).1 = one at *
 generalize (cutL 44 s.data.toList).2.1 = rest0 at *
 generalize (cutL 44 s.data.toList).2.2 = more0 at *
 clear L0 Z0 hb1
 go_wp2_with fail
 refine (l1Int_any _ _ (by rw [size_of]; unfold maxLen; omega)).mono ?_
 rintro e w2 ⟨rfl, rfl⟩
 unfold numV
 simp only at *
 generalize numL one = base at *
 generalize okD one = ok0 at *
 have P3 := Blk.new w2 (.cells #[.int .i64 base, .slice none 0 0] 26)
 have L3 : Below w.heap.size w (w2.alloc (.cells #[.int .i64 base, .slice none 0 0] 26)) := L1.alloc L1.size _
 have Z3 := Z1.alloc (.cells #[.int .i64 base, .slice none 0 0] 26)
 have sP : w.heap.size < w2.heap.size := Z1.lt
 go_wp2
 go_loopw [5, 6, 8] (fun r m o wr => ∃ (R : List UInt8) (mo : Bool) (l : List (Int × Int)) (v : Value) (ok : Bool), r = .string ⟨R.toArray⟩ ∧ m = .bool mo ∧ o = .bool ok ∧ Hid (ok = true → Keeps s.data.toList base G R mo l) ∧ Hid (ok = false → G = none) ∧ l.length ≤ 13 ∧ R.length ≤ 1048576 ∧ Blk wr w2.heap.size (.cells #[.int .i64 base, v] 26) ∧ OwnList wr (w2.heap.size + 1) v l ∧ Blk wr w.heap.size (.cells #[.int .i64 0, .slice none 0 0] 26) ∧ Below w.heap.size w wr) (fun r m _ _ => strN r + boolN m)
 case atStart => exact ⟨rest0, more0, [], _, ok0, rfl, rfl, rfl, HK, HN, by simp, by omega, P3, OwnList.nil _ _, Z3, L3⟩
 case round =>
  obtain ⟨R, mo, l, v, ok, rfl, rfl, rfl, HK', HN', hl, hR, P, O, Z, Lr⟩ := hrel
  clear HK HN P3 L3 Z3 L1 Z1
  obtain ⟨p1, p2⟩ := P.two
  obtain ⟨va, vc, rfl⟩ := OwnCats.shape O
  cases ok with
  | false =>
   cases mo with
   | false =>
    obtain ⟨z1, z2⟩ := Z.two
    have f1 := Z.frozen2 0
    have f2 := Z.frozen2 1
    have er : Hid (res = (0, [], false)) := (by rw [HR.out, HN'.out rfl]; rfl : res = (0, [], false))
    go_wp2
    exact bodyPost_ret (v := .tuple #[.agg #[.int .i64 0, .slice none 0 0], .bool false]) (by simp [results, Tryz.results33, go_sem, z1, z2]) rfl (RPost.no er.out ((Lr.setCell (Nat.le_refl _) _).setCell (Nat.le_refl _) _))
   | true =>
    obtain ⟨z1, z2⟩ := Z.two
    have f1 := Z.frozen2 0
    have f2 := Z.frozen2 1
    have er : Hid (res = (0, [], false)) := (by rw [HR.out, HN'.out rfl]; rfl : res = (0, [], false))
    go_wp2
    exact bodyPost_ret (v := .tuple #[.agg #[.int .i64 0, .slice none 0 0], .bool false]) (by simp [results, Tryz.results33, go_sem, z1, z2]) rfl (RPost.no er.out ((Lr.setCell (Nat.le_refl _) _).setCell (Nat.le_refl _) _))
  | true =>
   cases mo with
   | false =>
    have hk := HK'.out rfl
    go_wp2_with fail
    refine (specLabelText_any _ _ _ _ (fstAt l) (sndAt l) _ (by unfold maxLen; omega) (OwnCats.cats O)).mono ?_
    rintro e w4 ⟨rfl, hb4⟩
    have Z4 := Z.below hb4
    have P4 := P.below hb4
    have O4 := O.below hb4
    have L4 : Below w.heap.size w w4 := Lr.trans (hb4.mono Lr.size)
    clear p1 p2 P O Z Lr hb4
    obtain ⟨p1, p2⟩ := P4.two
    obtain ⟨z1, z2⟩ := Z4.two
    have f1 := Z4.frozen2 0
    have f2 := Z4.frozen2 1
    cases hok : labOk base l.length (fstAt l) (sndAt l) with
    | false =>
     obtain ⟨e1, e2⟩ := hk.no (.inl rfl) hl hok
     have er : Hid (res = (0, [], false)) := (by rw [HR.out, e1] : res = (0, [], false))
     have hne : (ltext base l.length (fstAt l) (sndAt l) == s.toList) = false := by
      rw [ByteArray.toList_eq]
      simpa using e2
     clear hk e1 e2
     generalize ltext base l.length (fstAt l) (sndAt l) = tx at *
     go_wp2
     exact bodyPost_ret (v := .tuple #[.agg #[.int .i64 0, .slice none 0 0], .bool false]) (by simp [results, Tryz.results33, go_sem, z1, z2]) rfl (RPost.no er.out ((L4.setCell (Nat.le_refl _) _).setCell (Nat.le_refl _) _))
    | true =>
     obtain ⟨e1, e2⟩ := hk.yes (.inl rfl) hok
     have er : Hid (res = (base, l, true)) := (by rw [HR.out, e1] : res = (base, l, true))
     have hne : (ltext base l.length (fstAt l) (sndAt l) == s.toList) = true := by
      rw [ByteArray.toList_eq]
      simpa using e2
     clear hk e1 e2
     generalize ltext base l.length (fstAt l) (sndAt l) = tx at *
     go_wp2
     exact bodyPost_ret (v := .tuple #[.agg #[.int .i64 base, .slice va l.length vc], .bool true]) (by simp [results, Tryz.results33, go_sem, z1, z2]) rfl (RPost.yes er.out (((O4.set (by omega) _ _).set (by omega) _ _).low (by omega)) ((L4.setCell (Nat.le_refl _) _).setCell (Nat.le_refl _) _))
   | true =>
    by_cases h12 : l.length ≤ 12
    rotate_left
    ·have h13 : Hid (l.length = 13) := (by omega : l.length = 13)
     have h13' : ¬ (l.length : Int) ≤ 12 := by omega
     have hk := HK'.out rfl
     go_wp2_with fail
     refine (specLabelText_any _ _ _ _ (fstAt l) (sndAt l) _ (by unfold maxLen; omega) (OwnCats.cats O)).mono ?_
     rintro e w4 ⟨rfl, hb4⟩
     have Z4 := Z.below hb4
     have P4 := P.below hb4
     have O4 := O.below hb4
     have L4 : Below w.heap.size w w4 := Lr.trans (hb4.mono Lr.size)
     clear p1 p2 P O Z Lr hb4
     obtain ⟨p1, p2⟩ := P4.two
     obtain ⟨z1, z2⟩ := Z4.two
     have f1 := Z4.frozen2 0
     have f2 := Z4.frozen2 1
     cases hok : labOk base l.length (fstAt l) (sndAt l) with
     | false =>
      obtain ⟨e1, e2⟩ := hk.no (.inr h13.out) hl hok
      have er : Hid (res = (0, [], false)) := (by rw [HR.out, e1] : res = (0, [], false))
      have hne : (ltext base l.length (fstAt l) (sndAt l) == s.toList) = false := by
       rw [ByteArray.toList_eq]
       simpa using e2
      clear hk e1 e2
      generalize ltext base l.length (fstAt l) (sndAt l) = tx at *
      go_wp2
      exact bodyPost_ret (v := .tuple #[.agg #[.int .i64 0, .slice none 0 0], .bool false]) (by simp [results, Tryz.results33, go_sem, z1, z2]) rfl (RPost.no er.out ((L4.setCell (Nat.le_refl _) _).setCell (Nat.le_refl _) _))
     | true =>
      obtain ⟨e1, e2⟩ := hk.yes (.inr h13.out) hok
      have er : Hid (res = (base, l, true)) := (by rw [HR.out, e1] : res = (base, l, true))
      have hne : (ltext base l.length (fstAt l) (sndAt l) == s.toList) = true := by
       rw [ByteArray.toList_eq]
       simpa using e2
      clear hk e1 e2
      generalize ltext base l.length (fstAt l) (sndAt l) = tx at *
      go_wp2
      exact bodyPost_ret (v := .tuple #[.agg #[.int .i64 base, .slice va l.length vc], .bool true]) (by simp [results, Tryz.results33, go_sem, z1, z2]) rfl (RPost.yes er.out (((O4.set (by omega) _ _).set (by omega) _ _).low (by omega)) ((L4.setCell (Nat.le_refl _) _).setCell (Nat.le_refl _) _))
    have hk := HK'.out rfl
    have HKN : Hid (∀ piece R' mo', piece = (cutL 44 R).1 → R' = (cutL 44 R).2.1 → mo' = (cutL 44 R).2.2 → catOkL piece = true → Keeps s.data.toList base G R' mo' (l ++ [catL piece])) := fun p r m e1 e2 e3 h => by
     subst e1; subst e2; subst e3
     exact hk.next h12 h
    have HKB : Hid (∀ piece, piece = (cutL 44 R).1 → catOkL piece = false → G = none) := fun p e1 h => by
     subst e1
     exact hk.bad h12 h
    clear hk HK' HN'
    have h12' : (l.length : Int) ≤ 12 := by omega
    go_wp2_with fail
    refine (l1Cut_any _ 44 _ (by rw [size_of]; unfold maxLen; omega)).mono ?_
    rintro e w4 ⟨rfl, hb4⟩
    have Z4 := Z.below hb4
    have P4 := P.below hb4
    have O4 := O.below hb4
    have L4 : Below w.heap.size w w4 := Lr.trans (hb4.mono Lr.size)
    have hms := cut_measure R
    have hc1 := cutL_len1 44 R
    have hc2 := cutL_len2 44 R
    unfold cutV
    simp only at *
    obtain ⟨piece, hpc⟩ : ∃ p, p = (cutL 44 R).1 := ⟨_, rfl⟩
    obtain ⟨R', hR'⟩ : ∃ p, p = (cutL 44 R).2.1 := ⟨_, rfl⟩
    obtain ⟨mo', hmo'⟩ : ∃ p, p = (cutL 44 R).2.2 := ⟨_, rfl⟩
    have HKN' : Hid (catOkL piece = true → Keeps s.data.toList base G R' mo' (l ++ [catL piece])) := HKN.out _ _ _ hpc hR' hmo'
    have HKB' : Hid (catOkL piece = false → G = none) := HKB.out _ hpc
    rw [← hpc] at hc1
    rw [← hR'] at hc2
    rw [← hR', ← hmo'] at hms
    rw [← hpc, ← hR', ← hmo']
    clear HKN HKB hpc hR' hmo' p1 p2 P O Z Lr hb4
    have hq1 := cutL_len1 58 piece
    have hq2 := cutL_len2 58 piece
    go_wp2_with fail
    refine (l1Cut_any _ 58 _ (by rw [size_of]; unfold maxLen; omega)).mono ?_
    rintro e w5 ⟨rfl, hb5⟩
    have Z5 := Z4.below hb5
    have P5 := P4.below hb5
    have O5 := O4.below hb5
    have L5 : Below w.heap.size w w5 := L4.trans (hb5.mono L4.size)
    clear Z4 P4 O4 L4 hb5
    unfold cutV
    simp only at *
    have hcat : catOkL piece = (okD (cutL 58 piece).1 && okD (cutL 58 piece).2.1) := rfl
    have hcl : catL piece = (numL (cutL 58 piece).1, numL (cutL 58 piece).2.1) := rfl
    rw [hcat, hcl] at HKN'
    rw [hcat] at HKB'
    clear hcat hcl
    generalize (cutL 58 piece).1 = A at *
    generalize (cutL 58 piece).2.1 = B at *
    generalize (cutL 58 piece).2.2 = fnd at *
    go_wp2_with fail
    refine (l1Int_any _ _ (by rw [size_of]; unfold maxLen; omega)).mono ?_
    rintro e w6 ⟨rfl, rfl⟩
    unfold numV
    simp only at *
    go_wp2_with fail
    refine (l1Int_any _ _ (by rw [size_of]; unfold maxLen; omega)).mono ?_
    rintro e w7 ⟨rfl, rfl⟩
    unfold numV
    simp only at *
    generalize numL A = x at *
    generalize numL B = y at *
    generalize okD A = oa at *
    generalize okD B = ob at *
    have s5 : w2.heap.size + 1 ≤ w7.heap.size := P5.lt
    have HNE : Hid (some w2.heap.size ≠ (Value.slice va l.length vc).ownBlock) := fun e => by have := (World.ownsRow.lt O5 _ e.symm).1; omega
    have HO : Hid (OwnList w7 (w2.heap.size + 1) (.slice va l.length vc) l) := O5
    have hsz : w.heap.size + 1 ≤ w7.heap.size := Z5.lt
    obtain ⟨p1, p2⟩ := P5.two
    have pf0 := P5.frozen2 1
    have OC : Hid (CatsAt (w7.alloc (.cells #[.int .i64 x, .int .i64 y] 63)) (some ⟨w7.heap.size, 0, none⟩) 1 (fun _ => x) (fun _ => y)) := one_cat w7 x y
    cases oa with
    | true =>
     cases ob with
     | true =>
      go_wp2_with (at_builtin; refine wpList_append_cats _ rfl _ _ rfl (w2.heap.size + 1) _ _ _ _ rfl (OwnCats.alloc HO.out _) _ 1 1 (fun _ => x) (fun _ => y) rfl OC.out (by omega) (by simp; omega) ?_; intro a' c' w' hown' hgrow' hat'; have hZ' := (P5.alloc (.cells #[.int .i64 x, .int .i64 y] 63)).grown hgrow' (HNE.out); obtain ⟨q1, q2⟩ := hZ'.two; have pf := hZ'.frozen2 1)
      have hgN : Below w.heap.size w w' := (L5.alloc (by omega) _).grown hgrow' (by simp; omega) (fun j e => by have := (World.ownsRow.lt HO.out j e).1; omega)
      have Z7 := (Z5.alloc (.cells #[.int .i64 x, .int .i64 y] 63)).grown hgrow' (fun e => by have := (World.ownsRow.lt HO.out _ e.symm).1; omega)
      go_roundw
      case rel =>
       refine ⟨R', mo', l ++ [(x, y)], _, true, rfl, rfl, rfl, (fun _ => HKN'.out rfl), (fun h => Bool.noConfusion h), by rw [List.length_append]; simp; omega, by omega, hZ'.set1 _, (OwnList.snoc hown').set (by omega) _ _, Z7.grown (grown_set (grown_refl w' w2.heap.size) 1 _) (by simp; omega), hgN.setCell (by dsimp only; omega) _⟩
      case measure =>
       have e1 : strN (.string ⟨R'.toArray⟩) = R'.length := size_of R'
       have e2 : strN (.string ⟨R.toArray⟩) = R.length := size_of R
       have e3 : boolN (.bool mo') = if mo' = true then 1 else 0 := by cases mo' <;> rfl
       rw [e1, e2, e3]
       exact hms
     | false =>
      go_wp2_with (at_builtin; refine wpList_append_cats _ rfl _ _ rfl (w2.heap.size + 1) _ _ _ _ rfl (OwnCats.alloc HO.out _) _ 1 1 (fun _ => x) (fun _ => y) rfl OC.out (by omega) (by simp; omega) ?_; intro a' c' w' hown' hgrow' hat'; have hZ' := (P5.alloc (.cells #[.int .i64 x, .int .i64 y] 63)).grown hgrow' (HNE.out); obtain ⟨q1, q2⟩ := hZ'.two; have pf := hZ'.frozen2 1)
      have hgN : Below w.heap.size w w' := (L5.alloc (by omega) _).grown hgrow' (by simp; omega) (fun j e => by have := (World.ownsRow.lt HO.out j e).1; omega)
      have Z7 := (Z5.alloc (.cells #[.int .i64 x, .int .i64 y] 63)).grown hgrow' (fun e => by have := (World.ownsRow.lt HO.out _ e.symm).1; omega)
      go_roundw
      case rel =>
       refine ⟨R', mo', l ++ [(x, y)], _, false, rfl, rfl, rfl, (fun h => Bool.noConfusion h), (fun _ => HKB'.out rfl), by rw [List.length_append]; simp; omega, by omega, hZ'.set1 _, (OwnList.snoc hown').set (by omega) _ _, Z7.grown (grown_set (grown_refl w' w2.heap.size) 1 _) (by simp; omega), hgN.setCell (by dsimp only; omega) _⟩
      case measure =>
       have e1 : strN (.string ⟨R'.toArray⟩) = R'.length := size_of R'
       have e2 : strN (.string ⟨R.toArray⟩) = R.length := size_of R
       have e3 : boolN (.bool mo') = if mo' = true then 1 else 0 := by cases mo' <;> rfl
       rw [e1, e2, e3]
       exact hms
    | false =>
     go_wp2_with (at_builtin; refine wpList_append_cats _ rfl _ _ rfl (w2.heap.size + 1) _ _ _ _ rfl (OwnCats.alloc HO.out _) _ 1 1 (fun _ => x) (fun _ => y) rfl OC.out (by omega) (by simp; omega) ?_; intro a' c' w' hown' hgrow' hat'; have hZ' := (P5.alloc (.cells #[.int .i64 x, .int .i64 y] 63)).grown hgrow' (HNE.out); obtain ⟨q1, q2⟩ := hZ'.two; have pf := hZ'.frozen2 1)
     have hgN : Below w.heap.size w w' := (L5.alloc (by omega) _).grown hgrow' (by simp; omega) (fun j e => by have := (World.ownsRow.lt HO.out j e).1; omega)
     have Z7 := (Z5.alloc (.cells #[.int .i64 x, .int .i64 y] 63)).grown hgrow' (fun e => by have := (World.ownsRow.lt HO.out _ e.symm).1; omega)
     go_roundw
     case rel =>
      refine ⟨R', mo', l ++ [(x, y)], _, false, rfl, rfl, rfl, (fun h => Bool.noConfusion h), (fun _ => HKB'.out rfl), by rw [List.length_append]; simp; omega, by omega, hZ'.set1 _, (OwnList.snoc hown').set (by omega) _ _, Z7.grown (grown_set (grown_refl w' w2.heap.size) 1 _) (by simp; omega), hgN.setCell (by dsimp only; omega) _⟩
     case measure =>
      have e1 : strN (.string ⟨R'.toArray⟩) = R'.length := size_of R'
      have e2 : strN (.string ⟨R.toArray⟩) = R.length := size_of R
      have e3 : boolN (.bool mo') = if mo' = true then 1 else 0 := by cases mo' <;> rfl
      rw [e1, e2, e3]
      exact hms
end Go.Proofs.YthbmfbnnemgbpaaGreatDoor
namespace Go.Proofs.YthbmfbnnemgbpaaGreatDoor
theorem digit_ofNat {n : Nat} (h : n < 10) : digitB (UInt8.ofNat (48 + n)) = true := by
 have e : (UInt8.ofNat (48 + n)).toNat = 48 + n := UInt8.toNat_ofNat_of_lt' (by simp [UInt8.size]; omega)
 simp only [digitB, e]
 simp
 omega
theorem decL_digits (n : Nat) : (decL n).all digitB = true := by
 induction n using Nat.strongRecOn with
 | _ n ih =>
  by_cases h : n < 10
  ·rw [decL_small h, List.all_cons, digit_ofNat h, List.all_nil]; rfl
  ·rw [decL_big h, List.all_append, ih (n / 10) (by omega)]
   rw [List.all_cons, digit_ofNat (show n % 10 < 10 by omega), List.all_nil]; rfl
theorem toNat_digit {n : Nat} (h : n < 10) : (UInt8.ofNat (48 + n)).toNat - 48 = n := by
 have e : (UInt8.ofNat (48 + n)).toNat = 48 + n := UInt8.toNat_ofNat_of_lt' (by simp [UInt8.size]; omega)
 omega
theorem val_dec (n : Nat) : valL (decL n) = n := by
 induction n using Nat.strongRecOn with
 | _ n ih =>
  by_cases h : n < 10
  ·rw [decL_small h]
   have := toNat_digit h
   simp only [valL, List.foldl_cons, List.foldl_nil]
   omega
  ·rw [decL_big h, valL_snoc, ih (n / 10) (by omega), toNat_digit (by omega)]
   omega
theorem decL_len_le (k : Nat) : ∀ n, n < 10 ^ (k + 1) → (decL n).length ≤ k + 1 := by
 induction k with
 | zero => intro n h; rw [decL_small (by simpa using h)]; simp
 | succ k ih =>
  intro n h
  by_cases hs : n < 10
  ·rw [decL_small hs]; simp
  ·rw [decL_big hs, List.length_append]
   have := ih (n / 10) (by rw [Nat.pow_succ] at h; omega)
   simp
   omega
theorem decL_pos_len (n : Nat) : 1 ≤ (decL n).length := by
 by_cases h : n < 10
 ·rw [decL_small h]; simp
 ·rw [decL_big h]; simp
theorem decL_head : ∀ n, 1 ≤ n → (decL n)[0]? ≠ some 48 := by
 intro n
 induction n using Nat.strongRecOn with
 | _ n ih =>
  intro hp
  by_cases h : n < 10
  ·rw [decL_small h]
   simp only [List.getElem?_cons_zero, ne_eq, Option.some.injEq]
   intro e
   have e' := congrArg UInt8.toNat e
   rw [UInt8.toNat_ofNat_of_lt' (by simp [UInt8.size]; omega)] at e'
   simp at e'
   omega
  ·rw [decL_big h, List.getElem?_append_left (decL_pos_len _)]
   exact ih (n / 10) (by omega) (by omega)
theorem okD_dec {n : Nat} (h : n < 10 ^ 10) : okD (decL n) = true := by
 have h1 := decL_pos_len n
 have h2 := decL_len_le 9 n h
 have h3 : (decide ((decL n)[0]? ≠ some 48) || decide ((decL n).length ≤ 1)) = true := by
  by_cases hs : n < 10
  ·rw [decL_small hs]; simp
  ·rw [Bool.or_eq_true, decide_eq_true_eq]; exact .inl (decL_head n (by omega))
 unfold okD
 rw [h3, decL_digits]
 simp [h1, h2]
theorem cutL_at {c : UInt8} {D : List UInt8} (h : ∀ b ∈ D, b ≠ c) (R : List UInt8) : cutL c (D ++ c :: R) = (D, R, true) := by
 induction D with
 | nil => simp [cutL]
 | cons b D ih =>
  have hb : ¬ b = c := h b (by simp)
  simp [cutL, hb, ih (fun x hx => h x (by simp [hx]))]
theorem cutL_no {c : UInt8} {D : List UInt8} (h : ∀ b ∈ D, b ≠ c) : cutL c D = (D, [], false) := by
 induction D with
 | nil => rfl
 | cons b D ih =>
  have hb : ¬ b = c := h b (by simp)
  simp [cutL, hb, ih (fun x hx => h x (by simp [hx]))]
theorem digit_not {c : UInt8} (hc : digitB c = false) (n : Nat) : ∀ b ∈ decL n, b ≠ c := fun b hb e => by
 have := List.all_eq_true.1 (decL_digits n) b hb
 rw [e, hc] at this
 exact absurd this (by simp)
def piece (c : Int × Int) : List UInt8 := decL c.1.toNat ++ 58 :: decL c.2.toNat
theorem catText_piece (c : Int × Int) : catText c = 44 :: piece c := rfl
theorem piece_no44 (c : Int × Int) : ∀ b ∈ piece c, b ≠ 44 := fun b hb => by
 unfold piece at hb
 rw [List.mem_append, List.mem_cons] at hb
 rcases hb with hb | rfl | hb
 ·exact digit_not (by decide) _ b hb
 ·decide
 ·exact digit_not (by decide) _ b hb
def Fit (c : Int × Int) : Prop := (0 ≤ c.1 ∧ c.1 < 10 ^ 10) ∧ (0 ≤ c.2 ∧ c.2 < 10 ^ 10)
theorem piece_cut (c : Int × Int) : cutL 58 (piece c) = (decL c.1.toNat, decL c.2.toNat, true) := cutL_at (digit_not (by decide) _) _
theorem piece_ok {c : Int × Int} (h : Fit c) : catOkL (piece c) = true ∧ catL (piece c) = c := by
 obtain ⟨⟨h1, h2⟩, ⟨h3, h4⟩⟩ := h
 have o1 : okD (decL c.1.toNat) = true := okD_dec (by omega)
 have o2 : okD (decL c.2.toNat) = true := okD_dec (by omega)
 unfold catOkL catL numL
 rw [piece_cut]
 simp only [o1, o2, val_dec, if_true, Bool.and_self, true_and]
 rw [Int.toNat_of_nonneg h1, Int.toNat_of_nonneg h3]
theorem gather_txt : ∀ (cs : List (Int × Int)) (c : Int × Int) (n : Nat) (acc : List (Int × Int)), cs.length + 1 ≤ n → Fit c → (∀ x ∈ cs, Fit x) → gather n (piece c ++ (cs.map catText).flatten) true acc = some (acc ++ c :: cs) := by
 intro cs
 induction cs with
 | nil =>
  intro c n acc hn hc _
  obtain ⟨q, rfl⟩ : ∃ q, n = q + 1 := ⟨n - 1, by simp at hn; omega⟩
  obtain ⟨p1, p2⟩ := piece_ok hc
  have e : cutL 44 (piece c ++ ([].map catText).flatten) = (piece c, [], false) := by simpa using cutL_no (piece_no44 c)
  rw [gather_next q _ _ (by rw [e]; exact p1), e, p2]
  exact gather_false _ _ _
 | cons d cs ih =>
  intro c n acc hn hc hcs
  obtain ⟨q, rfl⟩ : ∃ q, n = q + 1 := ⟨n - 1, by simp at hn; omega⟩
  obtain ⟨p1, p2⟩ := piece_ok hc
  have e : cutL 44 (piece c ++ ((d :: cs).map catText).flatten) = (piece c, piece d ++ (cs.map catText).flatten, true) := by
   rw [List.map_cons, List.flatten_cons, catText_piece, List.cons_append]
   exact cutL_at (piece_no44 c) _
  rw [gather_next q _ _ (by rw [e]; exact p1), e, p2]
  show gather q _ true _ = _
  rw [ih d q (acc ++ [c]) (by simp at hn; omega) (hcs d (by simp)) (fun x hx => hcs x (by simp [hx]))]
  simp
theorem labOk_fit {b : Int} {l : List (Int × Int)} (h : labOk b l.length (fstAt l) (sndAt l) = true) : ∀ x ∈ l, Fit x := fun x hx => by
 obtain ⟨i, hi, rfl⟩ := List.getElem_of_mem hx
 have := catOk_iff.1 ((labOk_out h).2.2 i hi)
 simp [fstAt, sndAt, hi] at this
 unfold Fit
 omega
theorem read_txt {b : Int} {l : List (Int × Int)} (h : labOk b l.length (fstAt l) (sndAt l) = true) : readL (txt b l) = (b, l, true) := by
 obtain ⟨h1, h2, _⟩ := labOk_out h
 have hb := inB_iff.1 h1
 have hfit := labOk_fit h
 have o1 : okD (decL b.toNat) = true := okD_dec (by omega)
 have nb : numL (decL b.toNat) = b := by
  unfold numL
  rw [if_pos o1, val_dec]
  omega
 have nd := digit_not (c := 44) (by decide) b.toNat
 have key : cutL 44 (txt b l) = (decL b.toNat, (cutL 44 (txt b l)).2.1, (cutL 44 (txt b l)).2.2) ∧ gather 12 (cutL 44 (txt b l)).2.1 (cutL 44 (txt b l)).2.2 [] = some l := by
  cases l with
  | nil =>
   have e : cutL 44 (txt b []) = (decL b.toNat, [], false) := by simpa [txt] using cutL_no nd
   rw [e]
   exact ⟨rfl, rfl⟩
  | cons c cs =>
   have e : cutL 44 (txt b (c :: cs)) = (decL b.toNat, piece c ++ (cs.map catText).flatten, true) := by
    unfold txt
    rw [List.map_cons, List.flatten_cons, catText_piece, List.cons_append]
    exact cutL_at nd _
   rw [e]
   exact ⟨rfl, by simpa using gather_txt cs c 12 [] (by simpa using h2) (hfit c (by simp)) (fun x hx => hfit x (by simp [hx]))⟩
 obtain ⟨k1, k2⟩ := key
 unfold readL
 rw [k1]
 simp only
 rw [if_pos o1, k2, nb]
 simp [fin, h]
theorem Keeps.ends {S : List UInt8} {base : Int} {G : Option (List (Int × Int))} {l : List (Int × Int)} (hG : G = some l) : ∀ (n : Nat) (R : List UInt8) (mo : Bool) (l0 : List (Int × Int)), l0.length + n = 12 → Keeps S base G R mo l0 → S = txt base l := by
 intro n
 induction n with
 | zero =>
  intro R mo l0 hl h
  obtain ⟨h1, _, h3⟩ := h
  have hg := h1 (by omega)
  have e : 12 - l0.length = 0 := by omega
  rw [e, hG] at hg
  cases mo with
  | true => rw [gather_full] at hg; cases hg
  | false =>
   rw [gather_false] at hg
   cases hg
   simpa using h3
 | succ n ih =>
  intro R mo l0 hl h
  cases mo with
  | false =>
   obtain ⟨h1, _, h3⟩ := h
   have hg := h1 (by omega)
   rw [gather_false, hG] at hg
   cases hg
   simpa using h3
  | true =>
   cases hc : catOkL (cutL 44 R).1 with
   | false =>
    have := h.bad (by omega) hc
    rw [hG] at this
    cases this
   | true => exact ih _ _ _ (by rw [List.length_append]; simp; omega) (h.next (by omega) hc)
theorem read_back {S : List UInt8} {b : Int} {l : List (Int × Int)} (h : readL S = (b, l, true)) : labOk b l.length (fstAt l) (sndAt l) = true ∧ txt b l = S := by
 unfold readL at h
 split at h
 ·rename_i ho
  unfold fin at h
  split at h
  ·rename_i cats hg
   split at h
   ·rename_i hok
    cases h
    exact ⟨hok, ((Keeps.start ho).ends hg 12 _ _ _ rfl).symm⟩
   ·cases h
  ·cases h
 ·cases h
end Go.Proofs.YthbmfbnnemgbpaaGreatDoor
namespace Go.Proofs.YthbmfbnnemgbpaaGreatDoor
def rst : Nat → List UInt8 → List UInt8
 | 0, L => L
 | k + 1, L => (cutL 32 (rst k L)).2.1
def pce (k : Nat) (L : List UInt8) : List UInt8 := (cutL 32 (rst k L)).1
def fnd (k : Nat) (L : List UInt8) : Bool := (cutL 32 (rst k L)).2.2
theorem rst_len (k : Nat) (L : List UInt8) : (rst k L).length ≤ L.length := by
 induction k with
 | zero => exact Nat.le_refl _
 | succ k ih => exact Nat.le_trans (cutL_len2 32 _) ih
theorem pce_len (k : Nat) (L : List UInt8) : (pce k L).length ≤ L.length := Nat.le_trans (cutL_len1 32 _) (rst_len k L)
theorem readL_len (L : List UInt8) : (readL L).2.1.length ≤ 12 := by
 unfold readL
 split
 ·unfold fin
  split
  ·split
   ·rename_i h
    exact (labOk_out h).2.1
   ·simp
  ·simp
 ·simp
def rl (k : Nat) (L : List UInt8) : Int × List (Int × Int) × Bool := readL (pce k L)
def nm (k : Nat) (L : List UInt8) : Int := numL (pce k L)
def rightS (L : List UInt8) : Bool := stepOk (nm 0 L) (nm 1 L) (nm 2 L) (nm 3 L) (nm 4 L) ⟨(rst 7 L).toArray⟩ (rl 5 L).1 (rl 5 L).2.1.length (fstAt (rl 5 L).2.1) (sndAt (rl 5 L).2.1) (rl 6 L).1 (rl 6 L).2.1.length (fstAt (rl 6 L).2.1) (sndAt (rl 6 L).2.1)
def againS (L : List UInt8) : ByteArray := stepA (nm 0 L) (nm 1 L) (nm 2 L) (nm 3 L) (nm 4 L) ⟨(rst 7 L).toArray⟩ (rl 5 L).1 (rl 5 L).2.1.length (fstAt (rl 5 L).2.1) (sndAt (rl 5 L).2.1) (rl 6 L).1 (rl 6 L).2.1.length (fstAt (rl 6 L).2.1) (sndAt (rl 6 L).2.1)
def numAtB (k : Nat) (L : List UInt8) : Bool := fnd k L && okD (pce k L)
def labAtB (k : Nat) (L : List UInt8) : Bool := fnd k L && (rl k L).2.2
def strictS (L : List UInt8) : Bool := numAtB 0 L && numAtB 1 L && numAtB 2 L && numAtB 3 L && numAtB 4 L && labAtB 5 L && labAtB 6 L && rightS L
theorem decB_list (x : Int) : (decB x).data.toList = decL x.toNat := by simp [decB]
theorem stepT_list (X1 X2 X3 X4 X5 X6 X7 X8 : ByteArray) : (stepT X1 X2 X3 X4 X5 X6 X7 X8).data.toList = X1.data.toList ++ 32 :: (X2.data.toList ++ 32 :: (X3.data.toList ++ 32 :: (X4.data.toList ++ 32 :: (X5.data.toList ++ 32 :: (X6.data.toList ++ 32 :: (X7.data.toList ++ 32 :: X8.data.toList)))))) := by
 unfold stepT
 simp
theorem txt_no32 (b : Int) (l : List (Int × Int)) : ∀ x ∈ txt b l, x ≠ 32 := fun x hx => by
 unfold txt at hx
 rw [List.mem_append] at hx
 rcases hx with hx | hx
 ·exact digit_not (by decide) _ x hx
 ·rw [List.mem_flatten] at hx
  obtain ⟨t, ht, hx⟩ := hx
  rw [List.mem_map] at ht
  obtain ⟨c, _, rfl⟩ := ht
  unfold catText at hx
  rw [List.mem_cons, List.mem_append, List.mem_cons] at hx
  rcases hx with rfl | hx | rfl | hx
  ·decide
  ·exact digit_not (by decide) _ x hx
  ·decide
  ·exact digit_not (by decide) _ x hx
theorem join_at {k : Nat} {L : List UInt8} (h : fnd k L = true) : rst k L = pce k L ++ 32 :: rst (k + 1) L := by
 have := cutL_join 32 (rst k L)
 unfold fnd at h
 rw [h, if_pos rfl] at this
 exact this
theorem nm_dec {k : Nat} {L : List UInt8} (h : numAtB k L = true) : fnd k L = true ∧ decL (nm k L).toNat = pce k L := by
 unfold numAtB at h
 rw [Bool.and_eq_true] at h
 refine ⟨h.1, ?_⟩
 unfold nm numL
 rw [if_pos h.2]
 simp [dec_ok h.2]
theorem rl_txt {k : Nat} {L : List UInt8} (h : labAtB k L = true) : fnd k L = true ∧ txt (rl k L).1 (rl k L).2.1 = pce k L := by
 unfold labAtB at h
 rw [Bool.and_eq_true] at h
 exact ⟨h.1, (read_back (S := pce k L) (b := (rl k L).1) (l := (rl k L).2.1) (by rw [← h.2]; rfl)).2⟩
theorem cut_at {k : Nat} {L D R : List UInt8} (h : rst k L = D ++ 32 :: R) (hD : ∀ b ∈ D, b ≠ 32) : fnd k L = true ∧ pce k L = D ∧ rst (k + 1) L = R := by
 have e := cutL_at hD R
 rw [← h] at e
 exact ⟨by unfold fnd; rw [e], by unfold pce; rw [e], by show (cutL 32 (rst k L)).2.1 = R; rw [e]⟩
theorem strict_yes {L : List UInt8} (h : strictS L = true) : L ≠ [] ∧ (againS L).data.toList = L := by
 unfold strictS at h
 simp only [Bool.and_eq_true] at h
 obtain ⟨⟨⟨⟨⟨⟨⟨h0, h1⟩, h2⟩, h3⟩, h4⟩, h5⟩, h6⟩, hr⟩ := h
 obtain ⟨f0, e0⟩ := nm_dec h0
 obtain ⟨f1, e1⟩ := nm_dec h1
 obtain ⟨f2, e2⟩ := nm_dec h2
 obtain ⟨f3, e3⟩ := nm_dec h3
 obtain ⟨f4, e4⟩ := nm_dec h4
 obtain ⟨f5, e5⟩ := rl_txt h5
 obtain ⟨f6, e6⟩ := rl_txt h6
 have j0 : L = _ := join_at f0
 rw [join_at f1, join_at f2, join_at f3, join_at f4, join_at f5, join_at f6] at j0
 refine ⟨fun e => by rw [e] at j0; simp at j0, ?_⟩
 unfold againS stepA
 unfold rightS at hr
 rw [if_pos hr, stepT_list]
 simp only [decB_list, catsTo_list]
 rw [e0, e1, e2, e3, e4, e5, e6]
 exact j0.symm
theorem dec_at {k : Nat} {L R : List UInt8} {x : Int} (h : rst k L = decL x.toNat ++ 32 :: R) (hx : 0 ≤ x ∧ x ≤ 9999) : numAtB k L = true ∧ rst (k + 1) L = R := by
 obtain ⟨h1, h2, h3⟩ := cut_at h (digit_not (by decide) _)
 refine ⟨?_, h3⟩
 unfold numAtB
 rw [h1, h2, okD_dec (by omega)]
 rfl
theorem lab_at {k : Nat} {L R : List UInt8} {b : Int} {l : List (Int × Int)} (h : rst k L = txt b l ++ 32 :: R) (hx : labOk b l.length (fstAt l) (sndAt l) = true) : labAtB k L = true ∧ rst (k + 1) L = R := by
 obtain ⟨h1, h2, h3⟩ := cut_at h (txt_no32 b l)
 refine ⟨?_, h3⟩
 unfold labAtB rl
 rw [h1, h2, read_txt hx]
 rfl
theorem strict_back {L : List UInt8} (hL : L ≠ []) (h : (againS L).data.toList = L) : strictS L = true := by
 have hr : rightS L = true := by
  cases e : rightS L with
  | true => rfl
  | false =>
   unfold againS stepA at h
   unfold rightS at e
   rw [if_neg (by rw [e]; decide)] at h
   exact absurd h.symm (by simpa using hL)
 have hr' := hr
 unfold rightS at hr'
 obtain ⟨g0, g1, g2, g3, g4, _, g5, g6⟩ := step_is _ _ _ _ _ _ _ _ _ _ _ _ _ _ hr'
 unfold againS stepA at h
 rw [if_pos hr', stepT_list] at h
 simp only [decB_list, catsTo_list] at h
 obtain ⟨k0, r1⟩ := dec_at (k := 0) (L := L) h.symm g0
 obtain ⟨k1, r2⟩ := dec_at r1 g1
 obtain ⟨k2, r3⟩ := dec_at r2 g2
 obtain ⟨k3, r4⟩ := dec_at r3 g3
 obtain ⟨k4, r5⟩ := dec_at r4 g4
 obtain ⟨k5, r6⟩ := lab_at r5 g5
 obtain ⟨k6, r7⟩ := lab_at r6 g6
 unfold strictS
 rw [k0, k1, k2, k3, k4, k5, k6, hr]
 rfl
theorem strict_iff (L : List UInt8) : strictS L = decide (L ≠ [] ∧ (againS L).data.toList = L) := by
 cases e : strictS L with
 | true => exact (decide_eq_true (strict_yes e)).symm
 | false =>
  symm
  rw [decide_eq_false_iff_not]
  intro h
  rw [strict_back h.1 h.2] at e
  cases e
end Go.Proofs.YthbmfbnnemgbpaaGreatDoor
