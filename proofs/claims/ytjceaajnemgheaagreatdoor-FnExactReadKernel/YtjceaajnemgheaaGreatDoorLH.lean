/- ReadLabel of the program. -/
import Derived.Test.YtjceaajnemgheaaGreatDoorZ22
import Derived.Test.YtjceaajnemgheaaGreatDoorZ23
namespace Go.Proofs.YtjceaajnemgheaaGreatDoor
open Go.RowKit Go.Deep Go.Maps

theorem size_of (l : List UInt8) : (⟨l.toArray⟩ : ByteArray).size = l.length := by simp [ByteArray.size]

set_option maxRecDepth 100000 in
set_option maxHeartbeats 4000000 in
theorem implRead_any (s : ByteArray) (w : World) (hn : s.size ≤ 1048576) :
    Calls Tryz.prog 68 #[.string s] w (RPost (readL s.data.toList) w) := by
  have hsl : s.data.toList.length ≤ 1048576 := by simpa using hn
  have L0 := (Below.refl _ w).alloc (Nat.le_refl _) (.cells #[.int .i64 0, .slice none 0 0] 39)
  have Z0 := Blk.new w (.cells #[.int .i64 0, .slice none 0 0] 39)
  have HR : Hid (readL s.data.toList = if okD (cutL 44 s.data.toList).1 = true then fin (numL (cutL 44 s.data.toList).1) (gather 12 (cutL 44 s.data.toList).2.1 (cutL 44 s.data.toList).2.2 []) else (0, [], false)) := rfl
  have hl1 := cutL_len1 44 s.data.toList
  have hl2 := cutL_len2 44 s.data.toList
  generalize readL s.data.toList = res at *
  go_enter Tryz.func68, Tryz.ntmps68
  go_wp2_with fail
  refine (cut_any s 44 _ (by unfold maxLen; omega)).mono ?_
  rintro e w1 ⟨rfl, hb1⟩
  have L1 : Below w.heap.size w w1 := L0.trans (hb1.mono L0.size)
  have Z1 := Z0.below hb1
  unfold cutV
  generalize (cutL 44 s.data.toList).1 = one at *
  generalize (cutL 44 s.data.toList).2.1 = rest0 at *
  generalize (cutL 44 s.data.toList).2.2 = more0 at *
  clear L0 Z0 hb1
  go_wp2_with fail
  refine (readDecimal_any _ _ (by rw [size_of]; unfold maxLen; omega)).mono ?_
  rintro e w2 ⟨rfl, hb2⟩
  have L2 : Below w.heap.size w w2 := L1.trans (hb2.mono L1.size)
  have Z2 := Z1.below hb2
  unfold numV
  simp only at *
  generalize numL one = base at *
  cases ho : okD one with
  | false =>
    rw [ho] at HR
    obtain ⟨x1, x2⟩ := Z2.two
    have f1 := Z2.frozen2 0
    have f2 := Z2.frozen2 1
    go_wp2
    refine bodyPost_ret (v := .tuple #[.agg #[.int .i64 0, .slice none 0 0], .bool false]) (by simp [results, Tryz.results68, go_sem, x1, x2]) rfl (RPost.no (by rw [HR.out]; rfl) ((L2.setCell (Nat.le_refl _) _).setCell (Nat.le_refl _) _))
  | true =>
    rw [ho] at HR
    have HR' : Hid (res = fin base (gather 12 rest0 more0 [])) := HR
    clear HR ho
    have HG0 : ∃ G, gather 12 rest0 more0 [] = G := ⟨_, rfl⟩
    obtain ⟨G, hG⟩ := HG0
    rw [hG] at HR'
    have HG : Hid (gather 12 rest0 more0 [] = G) := hG
    clear hG
    have P3 := Blk.new w2 (.cells #[.int .i64 base, .slice none 0 0] 39)
    have L3 : Below w.heap.size w (w2.alloc (.cells #[.int .i64 base, .slice none 0 0] 39)) := L2.alloc L2.size _
    have Z3 := Z2.alloc (.cells #[.int .i64 base, .slice none 0 0] 39)
    have sP : w.heap.size < w2.heap.size := Z2.lt
    go_wp2
    go_loopw [5, 6] (fun r m wr => ∃ (R : List UInt8) (mo : Bool) (l : List (Int × Int)) (v : Value), r = .string ⟨R.toArray⟩ ∧ m = .bool mo ∧ Hid (gather (12 - l.length) R mo l = G) ∧ l.length ≤ 12 ∧ R.length ≤ 1048576 ∧ Blk wr w2.heap.size (.cells #[.int .i64 base, v] 39) ∧ OwnList wr (w2.heap.size + 1) v l ∧ Blk wr w.heap.size (.cells #[.int .i64 0, .slice none 0 0] 39) ∧ Below w.heap.size w wr) (fun r m _ => strN r + boolN m)
    case atStart => exact ⟨rest0, more0, [], _, rfl, rfl, HG, by simp, by omega, P3, OwnList.nil _ _, Z3, L3⟩
    case round =>
      obtain ⟨R, mo, l, v, rfl, rfl, HGr, hl, hR, P, O, Z, Lr⟩ := hrel
      clear HG P3 L3 Z3 L2 Z2 hb2 L1 Z1
      obtain ⟨p1, p2⟩ := P.two
      obtain ⟨va, vc, rfl⟩ := OwnCats.shape O
      cases mo with
      | false =>
        rw [gather_false] at HGr
        go_wp2_with fail
        refine (implOk_any _ _ _ _ (fstAt l) (sndAt l) _ (by unfold maxLen; omega) (OwnCats.cats O)).mono ?_
        rintro e w4 ⟨rfl, hb4⟩
        have Z4 := Z.below hb4
        have P4 := P.below hb4
        have O4 := O.below hb4
        have L4 : Below w.heap.size w w4 := Lr.trans (hb4.mono Lr.size)
        clear p1 p2 P O Z Lr hb4
        obtain ⟨p1, p2⟩ := P4.two
        obtain ⟨z1, z2⟩ := Z4.two
        have f1 := Z4.frozen2 0
        have f2 := Z4.frozen2 1
        cases hok : labOk base l.length (fstAt l) (sndAt l) with
        | false =>
          have er : Hid (res = (0, [], false)) := (by rw [HR'.out, ← HGr.out]; simp [fin, hok] : res = (0, [], false))
          go_wp2
          exact bodyPost_ret (v := .tuple #[.agg #[.int .i64 0, .slice none 0 0], .bool false]) (by simp [results, Tryz.results68, go_sem, z1, z2]) rfl (RPost.no er.out ((L4.setCell (Nat.le_refl _) _).setCell (Nat.le_refl _) _))
        | true =>
          have er : Hid (res = (base, l, true)) := (by rw [HR'.out, ← HGr.out]; simp [fin, hok] : res = (base, l, true))
          go_wp2
          exact bodyPost_ret (v := .tuple #[.agg #[.int .i64 base, .slice va l.length vc], .bool true]) (by simp [results, Tryz.results68, go_sem, z1, z2]) rfl (RPost.yes er.out (((O4.set (by omega) _ _).set (by omega) _ _).low (by omega)) ((L4.setCell (Nat.le_refl _) _).setCell (Nat.le_refl _) _))
      | true =>
        go_wp2_with fail
        refine (cut_any _ 44 _ (by rw [size_of]; unfold maxLen; omega)).mono ?_
        rintro e w4 ⟨rfl, hb4⟩
        have Z4 := Z.below hb4
        have P4 := P.below hb4
        have O4 := O.below hb4
        have L4 : Below w.heap.size w w4 := Lr.trans (hb4.mono Lr.size)
        have hms := cut_measure R
        have hc1 := cutL_len1 44 R
        have hc2 := cutL_len2 44 R
        have HN := fun n => gather_next n R l
        have HBd := fun n => gather_bad n R l
        unfold cutV
        simp only at *
        generalize (cutL 44 R).1 = piece at *
        generalize (cutL 44 R).2.1 = R' at *
        generalize (cutL 44 R).2.2 = mo' at *
        clear p1 p2 P O Z Lr hb4
        go_wp2_with fail
        refine (readCat_any _ _ (by rw [size_of]; unfold maxLen; omega)).mono ?_
        rintro e w5 ⟨rfl, hb5⟩
        have Z5 := Z4.below hb5
        have P5 := P4.below hb5
        have O5 := O4.below hb5
        have L5 : Below w.heap.size w w5 := L4.trans (hb5.mono L4.size)
        clear P4 O4 Z4 L4 hb5
        unfold catV
        simp only at *
        cases hcat : catOkL piece with
        | false =>
          have er : Hid (res = (0, [], false)) := (by rw [HR'.out, ← HGr.out, HBd _ hcat]; rfl : res = (0, [], false))
          have Z6 := Z5.alloc (.cells #[.int .i64 0, .int .i64 0] 58)
          have L6 := L5.alloc L5.size (.cells #[.int .i64 0, .int .i64 0] 58)
          obtain ⟨z1, z2⟩ := Z6.two
          have f1 := Z6.frozen2 0
          have f2 := Z6.frozen2 1
          clear HN HBd
          go_wp2
          exact bodyPost_ret (v := .tuple #[.agg #[.int .i64 0, .slice none 0 0], .bool false]) (by simp [results, Tryz.results68, go_sem, z1, z2]) rfl (RPost.no er.out ((L6.setCell (Nat.le_refl _) _).setCell (Nat.le_refl _) _))
        | true =>
          rcases hxy : catL piece with ⟨x, y⟩
          simp only at *
          have Z6 := Z5.alloc (.cells #[.int .i64 x, .int .i64 y] 58)
          have P6 := P5.alloc (.cells #[.int .i64 x, .int .i64 y] 58)
          have L6 := L5.alloc L5.size (.cells #[.int .i64 x, .int .i64 y] 58)
          have C6 := Blk.new w5 (.cells #[.int .i64 x, .int .i64 y] 58)
          have O6 : OwnList _ _ _ l := OwnCats.alloc O5 (.cells #[.int .i64 x, .int .i64 y] 58)
          obtain ⟨p1, p2⟩ := P6.two
          obtain ⟨c1, c2⟩ := C6.two
          by_cases h12 : l.length = 12
          · have er : Hid (res = (0, [], false)) := (by rw [HR'.out, ← HGr.out, h12]; rfl : res = (0, [], false))
            obtain ⟨z1, z2⟩ := Z6.two
            have f1 := Z6.frozen2 0
            have f2 := Z6.frozen2 1
            have h12' : (l.length : Int) = 12 := by omega
            clear HN HBd
            go_wp2
            exact bodyPost_ret (v := .tuple #[.agg #[.int .i64 0, .slice none 0 0], .bool false]) (by simp [results, Tryz.results68, go_sem, z1, z2]) rfl (RPost.no er.out ((L6.setCell (Nat.le_refl _) _).setCell (Nat.le_refl _) _))
          · have h12' : ¬ (l.length : Int) = 12 := by omega
            have HG2 : Hid (gather (12 - (l ++ [(x, y)]).length) R' mo' (l ++ [(x, y)]) = G) := by
              show _ = _
              rw [← HGr.out]
              obtain ⟨q, hq⟩ : ∃ q, 12 - l.length = q + 1 := ⟨12 - l.length - 1, by omega⟩
              rw [hq, HN q hcat, hxy]
              congr 1
              rw [List.length_append]
              simp
              omega
            clear HN HBd HGr
            have h12'' : ((l.length : Int) == 12) = false := by simpa using h12'
            have s5 : w2.heap.size + 1 ≤ w5.heap.size := P5.lt
            have HNE : Hid (some w2.heap.size ≠ (Value.slice va l.length vc).ownBlock) := fun e => by have := (World.ownsRow.lt O5 _ e.symm).1; omega
            have HO : Hid (OwnList (w5.alloc (.cells #[.int .i64 x, .int .i64 y] 58)) (w2.heap.size + 1) (.slice va l.length vc) l) := O6
            have hw4 : w.heap.size < w2.heap.size := sP
            have pf0 := P6.frozen2 1
            have OC : Hid (CatsAt ((w5.alloc (.cells #[.int .i64 x, .int .i64 y] 58)).alloc (.cells #[.int .i64 x, .int .i64 y] 58)) (some ⟨w5.heap.size + 1, 0, none⟩) 1 (fun _ => x) (fun _ => y)) := by
              have sz : (w5.alloc (.cells #[.int .i64 x, .int .i64 y] 58)).heap.size = w5.heap.size + 1 := by simp
              have t := one_cat (w5.alloc (.cells #[.int .i64 x, .int .i64 y] 58)) x y
              rw [sz] at t
              exact t
            go_wp2_with (at_builtin; go_loud (refine wpList_append_cats _ rfl _ _ rfl (w2.heap.size + 1) _ _ _ _ rfl (OwnCats.alloc HO.out _) _ 1 1 (fun _ => x) (fun _ => y) rfl OC.out (by omega) (by simp; omega) ?_; intro a' c' w' hown' hgrow' hat'; have hZ' := (P6.alloc (.cells #[.int .i64 x, .int .i64 y] 58)).grown hgrow' (HNE.out); obtain ⟨q1, q2⟩ := hZ'.two; have pf := hZ'.frozen2 1))
            have hgN : Below w.heap.size w w' := (L6.alloc (by simp; omega) _).grown hgrow' (by simp; omega) (fun j e => by have := (World.ownsRow.lt HO.out j e).1; omega)
            have Z7 := (Z6.alloc (.cells #[.int .i64 x, .int .i64 y] 58)).grown hgrow' (fun e => by have := (World.ownsRow.lt HO.out _ e.symm).1; omega)
            go_roundw
            case rel =>
              refine ⟨R', mo', l ++ [(x, y)], _, rfl, rfl, HG2, by rw [List.length_append]; simp; omega, by omega, hZ'.set1 _, (OwnList.snoc hown').set (by omega) _ _, Z7.grown (grown_set (grown_refl w' w2.heap.size) 1 _) (by simp; omega), hgN.setCell (by dsimp only; omega) _⟩
            case measure =>
              have e1 : strN (.string ⟨R'.toArray⟩) = R'.length := size_of R'
              have e2 : strN (.string ⟨R.toArray⟩) = R.length := size_of R
              have e3 : boolN (.bool mo') = if mo' = true then 1 else 0 := by cases mo' <;> rfl
              rw [e1, e2, e3]
              exact hms
end Go.Proofs.YtjceaajnemgheaaGreatDoor
