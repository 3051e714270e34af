/- ReadLabel of the model. -/
import Derived.Test.YtjceaajnemgheaaGreatDoorLH
namespace Go.Proofs.YtjceaajnemgheaaGreatDoor
open Go.RowKit Go.Deep Go.Maps
def Keeps (S : List UInt8) (base : Int) (G : Option (List (Int × Int))) (R : List UInt8) (mo : Bool) (l : List (Int × Int)) : Prop :=
  (l.length ≤ 12 → gather (12 - l.length) R mo l = G) ∧ (l.length = 13 → G = none) ∧ S = txt base l ++ (if mo = true then 44 :: R else [])

theorem Keeps.next {S : List UInt8} {base : Int} {G : Option (List (Int × Int))} {R : List UInt8} {l : List (Int × Int)} (h : Keeps S base G R true l) (hl : l.length ≤ 12) (hc : catOkL (cutL 44 R).1 = true) :
    Keeps S base G (cutL 44 R).2.1 (cutL 44 R).2.2 (l ++ [catL (cutL 44 R).1]) := by
  obtain ⟨h1, _, h3⟩ := h
  have h1 := h1 hl
  refine ⟨fun h => ?_, fun h => ?_, ?_⟩
  · rw [List.length_append] at h ⊢
    have h' : l.length + 1 ≤ 12 := h
    obtain ⟨q, hq⟩ : ∃ q, 12 - l.length = q + 1 := ⟨12 - l.length - 1, by omega⟩
    rw [hq, gather_next q R l hc] at h1
    have e : 12 - (l.length + [catL (cutL 44 R).1].length) = q := by simp only [List.length_singleton]; omega
    rw [e]
    exact h1
  · rw [List.length_append] at h
    have h' : l.length = 12 := by simp at h; omega
    rw [h', Nat.sub_self] at h1
    exact h1.symm
  · rw [txt_snoc, catText_ok hc, h3, if_pos rfl, List.append_assoc, List.cons_append, ← cutL_join]

theorem Keeps.bad {S : List UInt8} {base : Int} {G : Option (List (Int × Int))} {R : List UInt8} {l : List (Int × Int)} (h : Keeps S base G R true l) (hl : l.length ≤ 12) (hc : catOkL (cutL 44 R).1 = false) : G = none := by
  rw [← h.1 hl, gather_bad _ _ _ hc]

theorem Keeps.start {S : List UInt8} (ho : okD (cutL 44 S).1 = true) : Keeps S (numL (cutL 44 S).1) (gather 12 (cutL 44 S).2.1 (cutL 44 S).2.2 []) (cutL 44 S).2.1 (cutL 44 S).2.2 [] := by
  refine ⟨fun _ => rfl, fun h => by simp at h, ?_⟩
  have : txt (numL (cutL 44 S).1) [] = (cutL 44 S).1 := by
    unfold numL
    rw [if_pos ho]
    simp only [txt, List.map_nil, List.flatten_nil, List.append_nil, Int.toNat_natCast]
    exact dec_ok ho
  rw [this]
  exact cutL_join 44 S

theorem txt_ne (base : Int) (l : List (Int × Int)) : txt base l ≠ [] := by
  unfold txt
  intro h
  have h1 := (List.append_eq_nil_iff.1 h).1
  by_cases hs : base.toNat < 10
  · rw [decL_small hs] at h1; simp at h1
  · rw [decL_big hs] at h1; simp at h1

theorem Keeps.yes {S : List UInt8} {base : Int} {G : Option (List (Int × Int))} {R : List UInt8} {mo : Bool} {l : List (Int × Int)} (h : Keeps S base G R mo l) (hx : mo = false ∨ l.length = 13) (hok : labOk base l.length (fstAt l) (sndAt l) = true) : fin base G = (base, l, true) ∧ ltext base l.length (fstAt l) (sndAt l) = S := by
  obtain ⟨h1, h2, h3⟩ := h
  have hl := (labOk_out hok).2.1
  have hm : mo = false := by
    rcases hx with e | e
    · exact e
    · omega
  subst hm
  have hg := h1 hl
  rw [gather_false] at hg
  refine ⟨by rw [← hg]; simp [fin, hok], ?_⟩
  unfold ltext
  rw [if_pos hok, catsTo_list, h3]
  simp

theorem Keeps.no {S : List UInt8} {base : Int} {G : Option (List (Int × Int))} {R : List UInt8} {mo : Bool} {l : List (Int × Int)} (h : Keeps S base G R mo l) (hx : mo = false ∨ l.length = 13) (hl : l.length ≤ 13) (hok : labOk base l.length (fstAt l) (sndAt l) = false) : fin base G = (0, [], false) ∧ ltext base l.length (fstAt l) (sndAt l) ≠ S := by
  obtain ⟨h1, h2, h3⟩ := h
  constructor
  · by_cases h13 : l.length = 13
    · rw [h2 h13]; rfl
    · have hm : mo = false := by
        rcases hx with e | e
        · exact e
        · omega
      subst hm
      have hg := h1 (by omega)
      rw [gather_false] at hg
      rw [← hg]; simp [fin, hok]
  · unfold ltext
    rw [if_neg (by rw [hok]; simp), h3]
    intro e
    exact txt_ne base l (List.append_eq_nil_iff.1 e.symm).1

set_option maxRecDepth 100000 in
set_option maxHeartbeats 4000000 in
theorem specRead_any (s : ByteArray) (w : World) (hn : s.size ≤ 1048576) :
    Calls Tryz.prog 12 #[.string s] w (RPost (readL s.data.toList) w) := by
  have hsl : s.data.toList.length ≤ 1048576 := by simpa using hn
  have L0 := (Below.refl _ w).alloc (Nat.le_refl _) (.cells #[.int .i64 0, .slice none 0 0] 39)
  have Z0 := Blk.new w (.cells #[.int .i64 0, .slice none 0 0] 39)
  have hl1 := cutL_len1 44 s.data.toList
  have hl2 := cutL_len2 44 s.data.toList
  obtain ⟨G, hG⟩ : ∃ G, (if okD (cutL 44 s.data.toList).1 = true then gather 12 (cutL 44 s.data.toList).2.1 (cutL 44 s.data.toList).2.2 [] else none) = G := ⟨_, rfl⟩
  have HR : Hid (readL s.data.toList = fin (numL (cutL 44 s.data.toList).1) G) := by
    show _ = _
    unfold readL
    rw [← hG]
    split <;> rfl
  have HK : Hid (okD (cutL 44 s.data.toList).1 = true → Keeps s.data.toList (numL (cutL 44 s.data.toList).1) G (cutL 44 s.data.toList).2.1 (cutL 44 s.data.toList).2.2 []) := fun ho => by
    rw [if_pos ho] at hG
    rw [← hG]
    exact Keeps.start ho
  have HN : Hid (okD (cutL 44 s.data.toList).1 = false → G = none) := fun ho => by
    rw [← hG, ho]; rfl
  clear hG
  generalize readL s.data.toList = res at *
  go_enter Tryz.func12, Tryz.ntmps12
  go_wp2_with fail
  refine (l1Cut_any s 44 _ (by unfold maxLen; omega)).mono ?_
  rintro e w1 ⟨rfl, hb1⟩
  have L1 : Below w.heap.size w w1 := L0.trans (hb1.mono L0.size)
  have Z1 := Z0.below hb1
  unfold cutV
  generalize (cutL 44 s.data.toList).1 = one at *
  generalize (cutL 44 s.data.toList).2.1 = rest0 at *
  generalize (cutL 44 s.data.toList).2.2 = more0 at *
  clear L0 Z0 hb1
  go_wp2_with fail
  refine (l1Int_any _ _ (by rw [size_of]; unfold maxLen; omega)).mono ?_
  rintro e w2 ⟨rfl, rfl⟩
  unfold numV
  simp only at *
  generalize numL one = base at *
  generalize okD one = ok0 at *
  have P3 := Blk.new w2 (.cells #[.int .i64 base, .slice none 0 0] 39)
  have L3 : Below w.heap.size w (w2.alloc (.cells #[.int .i64 base, .slice none 0 0] 39)) := L1.alloc L1.size _
  have Z3 := Z1.alloc (.cells #[.int .i64 base, .slice none 0 0] 39)
  have sP : w.heap.size < w2.heap.size := Z1.lt
  go_wp2
  go_loopw [5, 6, 8] (fun r m o wr => ∃ (R : List UInt8) (mo : Bool) (l : List (Int × Int)) (v : Value) (ok : Bool), r = .string ⟨R.toArray⟩ ∧ m = .bool mo ∧ o = .bool ok ∧ Hid (ok = true → Keeps s.data.toList base G R mo l) ∧ Hid (ok = false → G = none) ∧ l.length ≤ 13 ∧ R.length ≤ 1048576 ∧ Blk wr w2.heap.size (.cells #[.int .i64 base, v] 39) ∧ OwnList wr (w2.heap.size + 1) v l ∧ Blk wr w.heap.size (.cells #[.int .i64 0, .slice none 0 0] 39) ∧ Below w.heap.size w wr) (fun r m _ _ => strN r + boolN m)
  case atStart => exact ⟨rest0, more0, [], _, ok0, rfl, rfl, rfl, HK, HN, by simp, by omega, P3, OwnList.nil _ _, Z3, L3⟩
  case round =>
    obtain ⟨R, mo, l, v, ok, rfl, rfl, rfl, HK', HN', hl, hR, P, O, Z, Lr⟩ := hrel
    clear HK HN P3 L3 Z3 L1 Z1
    obtain ⟨p1, p2⟩ := P.two
    obtain ⟨va, vc, rfl⟩ := OwnCats.shape O
    cases ok with
    | false =>
      cases mo with
      | false =>
        obtain ⟨z1, z2⟩ := Z.two
        have f1 := Z.frozen2 0
        have f2 := Z.frozen2 1
        have er : Hid (res = (0, [], false)) := (by rw [HR.out, HN'.out rfl]; rfl : res = (0, [], false))
        go_wp2
        exact bodyPost_ret (v := .tuple #[.agg #[.int .i64 0, .slice none 0 0], .bool false]) (by simp [results, Tryz.results12, go_sem, z1, z2]) rfl (RPost.no er.out ((Lr.setCell (Nat.le_refl _) _).setCell (Nat.le_refl _) _))
      | true =>
        obtain ⟨z1, z2⟩ := Z.two
        have f1 := Z.frozen2 0
        have f2 := Z.frozen2 1
        have er : Hid (res = (0, [], false)) := (by rw [HR.out, HN'.out rfl]; rfl : res = (0, [], false))
        go_wp2
        exact bodyPost_ret (v := .tuple #[.agg #[.int .i64 0, .slice none 0 0], .bool false]) (by simp [results, Tryz.results12, go_sem, z1, z2]) rfl (RPost.no er.out ((Lr.setCell (Nat.le_refl _) _).setCell (Nat.le_refl _) _))
    | true =>
      cases mo with
      | false =>
        have hk := HK'.out rfl
        go_wp2_with fail
        refine (specLabelText_any _ _ _ _ (fstAt l) (sndAt l) _ (by unfold maxLen; omega) (OwnCats.cats O)).mono ?_
        rintro e w4 ⟨rfl, hb4⟩
        have Z4 := Z.below hb4
        have P4 := P.below hb4
        have O4 := O.below hb4
        have L4 : Below w.heap.size w w4 := Lr.trans (hb4.mono Lr.size)
        clear p1 p2 P O Z Lr hb4
        obtain ⟨p1, p2⟩ := P4.two
        obtain ⟨z1, z2⟩ := Z4.two
        have f1 := Z4.frozen2 0
        have f2 := Z4.frozen2 1
        cases hok : labOk base l.length (fstAt l) (sndAt l) with
        | false =>
          obtain ⟨e1, e2⟩ := hk.no (.inl rfl) hl hok
          have er : Hid (res = (0, [], false)) := (by rw [HR.out, e1] : res = (0, [], false))
          have hne : (ltext base l.length (fstAt l) (sndAt l) == s.toList) = false := by
            rw [ByteArray.toList_eq]
            simpa using e2
          clear hk e1 e2
          generalize ltext base l.length (fstAt l) (sndAt l) = tx at *
          go_wp2
          exact bodyPost_ret (v := .tuple #[.agg #[.int .i64 0, .slice none 0 0], .bool false]) (by simp [results, Tryz.results12, go_sem, z1, z2]) rfl (RPost.no er.out ((L4.setCell (Nat.le_refl _) _).setCell (Nat.le_refl _) _))
        | true =>
          obtain ⟨e1, e2⟩ := hk.yes (.inl rfl) hok
          have er : Hid (res = (base, l, true)) := (by rw [HR.out, e1] : res = (base, l, true))
          have hne : (ltext base l.length (fstAt l) (sndAt l) == s.toList) = true := by
            rw [ByteArray.toList_eq]
            simpa using e2
          clear hk e1 e2
          generalize ltext base l.length (fstAt l) (sndAt l) = tx at *
          go_wp2
          exact bodyPost_ret (v := .tuple #[.agg #[.int .i64 base, .slice va l.length vc], .bool true]) (by simp [results, Tryz.results12, go_sem, z1, z2]) rfl (RPost.yes er.out (((O4.set (by omega) _ _).set (by omega) _ _).low (by omega)) ((L4.setCell (Nat.le_refl _) _).setCell (Nat.le_refl _) _))
      | true =>
        by_cases h12 : l.length ≤ 12
        rotate_left
        · have h13 : Hid (l.length = 13) := (by omega : l.length = 13)
          have h13' : ¬ (l.length : Int) ≤ 12 := by omega
          have hk := HK'.out rfl
          go_wp2_with fail
          refine (specLabelText_any _ _ _ _ (fstAt l) (sndAt l) _ (by unfold maxLen; omega) (OwnCats.cats O)).mono ?_
          rintro e w4 ⟨rfl, hb4⟩
          have Z4 := Z.below hb4
          have P4 := P.below hb4
          have O4 := O.below hb4
          have L4 : Below w.heap.size w w4 := Lr.trans (hb4.mono Lr.size)
          clear p1 p2 P O Z Lr hb4
          obtain ⟨p1, p2⟩ := P4.two
          obtain ⟨z1, z2⟩ := Z4.two
          have f1 := Z4.frozen2 0
          have f2 := Z4.frozen2 1
          cases hok : labOk base l.length (fstAt l) (sndAt l) with
          | false =>
            obtain ⟨e1, e2⟩ := hk.no (.inr h13.out) hl hok
            have er : Hid (res = (0, [], false)) := (by rw [HR.out, e1] : res = (0, [], false))
            have hne : (ltext base l.length (fstAt l) (sndAt l) == s.toList) = false := by
              rw [ByteArray.toList_eq]
              simpa using e2
            clear hk e1 e2
            generalize ltext base l.length (fstAt l) (sndAt l) = tx at *
            go_wp2
            exact bodyPost_ret (v := .tuple #[.agg #[.int .i64 0, .slice none 0 0], .bool false]) (by simp [results, Tryz.results12, go_sem, z1, z2]) rfl (RPost.no er.out ((L4.setCell (Nat.le_refl _) _).setCell (Nat.le_refl _) _))
          | true =>
            obtain ⟨e1, e2⟩ := hk.yes (.inr h13.out) hok
            have er : Hid (res = (base, l, true)) := (by rw [HR.out, e1] : res = (base, l, true))
            have hne : (ltext base l.length (fstAt l) (sndAt l) == s.toList) = true := by
              rw [ByteArray.toList_eq]
              simpa using e2
            clear hk e1 e2
            generalize ltext base l.length (fstAt l) (sndAt l) = tx at *
            go_wp2
            exact bodyPost_ret (v := .tuple #[.agg #[.int .i64 base, .slice va l.length vc], .bool true]) (by simp [results, Tryz.results12, go_sem, z1, z2]) rfl (RPost.yes er.out (((O4.set (by omega) _ _).set (by omega) _ _).low (by omega)) ((L4.setCell (Nat.le_refl _) _).setCell (Nat.le_refl _) _))
        have hk := HK'.out rfl
        have HKN : Hid (∀ piece R' mo', piece = (cutL 44 R).1 → R' = (cutL 44 R).2.1 → mo' = (cutL 44 R).2.2 → catOkL piece = true → Keeps s.data.toList base G R' mo' (l ++ [catL piece])) := fun p r m e1 e2 e3 h => by
          subst e1; subst e2; subst e3
          exact hk.next h12 h
        have HKB : Hid (∀ piece, piece = (cutL 44 R).1 → catOkL piece = false → G = none) := fun p e1 h => by
          subst e1
          exact hk.bad h12 h
        clear hk HK' HN'
        have h12' : (l.length : Int) ≤ 12 := by omega
        go_wp2_with fail
        refine (l1Cut_any _ 44 _ (by rw [size_of]; unfold maxLen; omega)).mono ?_
        rintro e w4 ⟨rfl, hb4⟩
        have Z4 := Z.below hb4
        have P4 := P.below hb4
        have O4 := O.below hb4
        have L4 : Below w.heap.size w w4 := Lr.trans (hb4.mono Lr.size)
        have hms := cut_measure R
        have hc1 := cutL_len1 44 R
        have hc2 := cutL_len2 44 R
        unfold cutV
        simp only at *
        obtain ⟨piece, hpc⟩ : ∃ p, p = (cutL 44 R).1 := ⟨_, rfl⟩
        obtain ⟨R', hR'⟩ : ∃ p, p = (cutL 44 R).2.1 := ⟨_, rfl⟩
        obtain ⟨mo', hmo'⟩ : ∃ p, p = (cutL 44 R).2.2 := ⟨_, rfl⟩
        have HKN' : Hid (catOkL piece = true → Keeps s.data.toList base G R' mo' (l ++ [catL piece])) := HKN.out _ _ _ hpc hR' hmo'
        have HKB' : Hid (catOkL piece = false → G = none) := HKB.out _ hpc
        rw [← hpc] at hc1
        rw [← hR'] at hc2
        rw [← hR', ← hmo'] at hms
        rw [← hpc, ← hR', ← hmo']
        clear HKN HKB hpc hR' hmo' p1 p2 P O Z Lr hb4
        have hq1 := cutL_len1 58 piece
        have hq2 := cutL_len2 58 piece
        go_wp2_with fail
        refine (l1Cut_any _ 58 _ (by rw [size_of]; unfold maxLen; omega)).mono ?_
        rintro e w5 ⟨rfl, hb5⟩
        have Z5 := Z4.below hb5
        have P5 := P4.below hb5
        have O5 := O4.below hb5
        have L5 : Below w.heap.size w w5 := L4.trans (hb5.mono L4.size)
        clear Z4 P4 O4 L4 hb5
        unfold cutV
        simp only at *
        have hcat : catOkL piece = (okD (cutL 58 piece).1 && okD (cutL 58 piece).2.1) := rfl
        have hcl : catL piece = (numL (cutL 58 piece).1, numL (cutL 58 piece).2.1) := rfl
        rw [hcat, hcl] at HKN'
        rw [hcat] at HKB'
        clear hcat hcl
        generalize (cutL 58 piece).1 = A at *
        generalize (cutL 58 piece).2.1 = B at *
        generalize (cutL 58 piece).2.2 = fnd at *
        go_wp2_with fail
        refine (l1Int_any _ _ (by rw [size_of]; unfold maxLen; omega)).mono ?_
        rintro e w6 ⟨rfl, rfl⟩
        unfold numV
        simp only at *
        go_wp2_with fail
        refine (l1Int_any _ _ (by rw [size_of]; unfold maxLen; omega)).mono ?_
        rintro e w7 ⟨rfl, rfl⟩
        unfold numV
        simp only at *
        generalize numL A = x at *
        generalize numL B = y at *
        generalize okD A = oa at *
        generalize okD B = ob at *
        have s5 : w2.heap.size + 1 ≤ w7.heap.size := P5.lt
        have HNE : Hid (some w2.heap.size ≠ (Value.slice va l.length vc).ownBlock) := fun e => by have := (World.ownsRow.lt O5 _ e.symm).1; omega
        have HO : Hid (OwnList w7 (w2.heap.size + 1) (.slice va l.length vc) l) := O5
        have hsz : w.heap.size + 1 ≤ w7.heap.size := Z5.lt
        obtain ⟨p1, p2⟩ := P5.two
        have pf0 := P5.frozen2 1
        have OC : Hid (CatsAt (w7.alloc (.cells #[.int .i64 x, .int .i64 y] 58)) (some ⟨w7.heap.size, 0, none⟩) 1 (fun _ => x) (fun _ => y)) := one_cat w7 x y
        cases oa with
        | true =>
          cases ob with
          | true =>
            go_wp2_with (at_builtin; refine wpList_append_cats _ rfl _ _ rfl (w2.heap.size + 1) _ _ _ _ rfl (OwnCats.alloc HO.out _) _ 1 1 (fun _ => x) (fun _ => y) rfl OC.out (by omega) (by simp; omega) ?_; intro a' c' w' hown' hgrow' hat'; have hZ' := (P5.alloc (.cells #[.int .i64 x, .int .i64 y] 58)).grown hgrow' (HNE.out); obtain ⟨q1, q2⟩ := hZ'.two; have pf := hZ'.frozen2 1)
            have hgN : Below w.heap.size w w' := (L5.alloc (by omega) _).grown hgrow' (by simp; omega) (fun j e => by have := (World.ownsRow.lt HO.out j e).1; omega)
            have Z7 := (Z5.alloc (.cells #[.int .i64 x, .int .i64 y] 58)).grown hgrow' (fun e => by have := (World.ownsRow.lt HO.out _ e.symm).1; omega)
            go_roundw
            case rel =>
              refine ⟨R', mo', l ++ [(x, y)], _, true, rfl, rfl, rfl, (fun _ => HKN'.out rfl), (fun h => Bool.noConfusion h), by rw [List.length_append]; simp; omega, by omega, hZ'.set1 _, (OwnList.snoc hown').set (by omega) _ _, Z7.grown (grown_set (grown_refl w' w2.heap.size) 1 _) (by simp; omega), hgN.setCell (by dsimp only; omega) _⟩
            case measure =>
              have e1 : strN (.string ⟨R'.toArray⟩) = R'.length := size_of R'
              have e2 : strN (.string ⟨R.toArray⟩) = R.length := size_of R
              have e3 : boolN (.bool mo') = if mo' = true then 1 else 0 := by cases mo' <;> rfl
              rw [e1, e2, e3]
              exact hms
          | false =>
            go_wp2_with (at_builtin; refine wpList_append_cats _ rfl _ _ rfl (w2.heap.size + 1) _ _ _ _ rfl (OwnCats.alloc HO.out _) _ 1 1 (fun _ => x) (fun _ => y) rfl OC.out (by omega) (by simp; omega) ?_; intro a' c' w' hown' hgrow' hat'; have hZ' := (P5.alloc (.cells #[.int .i64 x, .int .i64 y] 58)).grown hgrow' (HNE.out); obtain ⟨q1, q2⟩ := hZ'.two; have pf := hZ'.frozen2 1)
            have hgN : Below w.heap.size w w' := (L5.alloc (by omega) _).grown hgrow' (by simp; omega) (fun j e => by have := (World.ownsRow.lt HO.out j e).1; omega)
            have Z7 := (Z5.alloc (.cells #[.int .i64 x, .int .i64 y] 58)).grown hgrow' (fun e => by have := (World.ownsRow.lt HO.out _ e.symm).1; omega)
            go_roundw
            case rel =>
              refine ⟨R', mo', l ++ [(x, y)], _, false, rfl, rfl, rfl, (fun h => Bool.noConfusion h), (fun _ => HKB'.out rfl), by rw [List.length_append]; simp; omega, by omega, hZ'.set1 _, (OwnList.snoc hown').set (by omega) _ _, Z7.grown (grown_set (grown_refl w' w2.heap.size) 1 _) (by simp; omega), hgN.setCell (by dsimp only; omega) _⟩
            case measure =>
              have e1 : strN (.string ⟨R'.toArray⟩) = R'.length := size_of R'
              have e2 : strN (.string ⟨R.toArray⟩) = R.length := size_of R
              have e3 : boolN (.bool mo') = if mo' = true then 1 else 0 := by cases mo' <;> rfl
              rw [e1, e2, e3]
              exact hms
        | false =>
          go_wp2_with (at_builtin; refine wpList_append_cats _ rfl _ _ rfl (w2.heap.size + 1) _ _ _ _ rfl (OwnCats.alloc HO.out _) _ 1 1 (fun _ => x) (fun _ => y) rfl OC.out (by omega) (by simp; omega) ?_; intro a' c' w' hown' hgrow' hat'; have hZ' := (P5.alloc (.cells #[.int .i64 x, .int .i64 y] 58)).grown hgrow' (HNE.out); obtain ⟨q1, q2⟩ := hZ'.two; have pf := hZ'.frozen2 1)
          have hgN : Below w.heap.size w w' := (L5.alloc (by omega) _).grown hgrow' (by simp; omega) (fun j e => by have := (World.ownsRow.lt HO.out j e).1; omega)
          have Z7 := (Z5.alloc (.cells #[.int .i64 x, .int .i64 y] 58)).grown hgrow' (fun e => by have := (World.ownsRow.lt HO.out _ e.symm).1; omega)
          go_roundw
          case rel =>
            refine ⟨R', mo', l ++ [(x, y)], _, false, rfl, rfl, rfl, (fun h => Bool.noConfusion h), (fun _ => HKB'.out rfl), by rw [List.length_append]; simp; omega, by omega, hZ'.set1 _, (OwnList.snoc hown').set (by omega) _ _, Z7.grown (grown_set (grown_refl w' w2.heap.size) 1 _) (by simp; omega), hgN.setCell (by dsimp only; omega) _⟩
          case measure =>
            have e1 : strN (.string ⟨R'.toArray⟩) = R'.length := size_of R'
            have e2 : strN (.string ⟨R.toArray⟩) = R.length := size_of R
            have e3 : boolN (.bool mo') = if mo' = true then 1 else 0 := by cases mo' <;> rfl
            rw [e1, e2, e3]
            exact hms
end Go.Proofs.YtjceaajnemgheaaGreatDoor
