/- FnWith: the walk: the law answers true at every code that came in, and writes nothing that was there. -/
import Derived.Test.YtjolkbcnglhebaaGJ
import Derived.Test.YtjolkbcnglhebaaGI
import Derived.Test.YtjolkbcnglhebaaFM
import Derived.Test.YtjolkbcnglhebaaRG
import Derived.Test.YtjolkbcnglhebaaWG
namespace Go.Proofs.Ytjolkbcnglhebaa
open Go.RowKit Go.Deep Go.Maps

def lit6 (x : Nat) : Int := if x = 0 then 1001 else if x = 1 then 2001 else if x = 2 then 3001 else if x = 3 then 5 else if x = 4 then 7 else 9
theorem lit6_cell {W : World} {q : Nat} (h : Blk W q (.cells #[.int .i64 1001, .int .i64 2001, .int .i64 3001, .int .i64 5, .int .i64 7, .int .i64 9] 2)) {x : Nat} (hx : x < 6) : W.cell? ⟨q, x, none⟩ = some (.int .i64 (lit6 x)) := by
  unfold Blk at h
  have : x = 0 ∨ x = 1 ∨ x = 2 ∨ x = 3 ∨ x = 4 ∨ x = 5 := by omega
  rcases this with rfl | rfl | rfl | rfl | rfl | rfl <;> simp [World.cell?, h, lit6]
theorem lit6_ok (x : Nat) : 1 ≤ lit6 x ∧ lit6 x ≤ 9999 := by unfold lit6; repeat' split <;> omega

theorem withList_len {b : Int} {l : List (Int × Int)} {cat level : Int} : (withList b l.length (fstAt l) (sndAt l) cat level).length ≤ 12 := by
  unfold withList
  split
  · rename_i h
    exact (withOk_out h).2.2.2
  · simp

section
variable {b1 : Int} {l1 : List (Int × Int)} {cat lv : Int}
theorem with_f1 (h : withOk b1 l1.length (fstAt l1) (sndAt l1) cat lv = true) {x : Int} (hx : x ≠ cat) (hr : 1 ≤ x ∧ x ≤ 9999) : levelB (withBase b1 l1.length (fstAt l1) (sndAt l1) cat lv) (withList b1 l1.length (fstAt l1) (sndAt l1) cat lv).length (fstAt (withList b1 l1.length (fstAt l1) (sndAt l1) cat lv)) (sndAt (withList b1 l1.length (fstAt l1) (sndAt l1) cat lv)) x = levelB b1 l1.length (fstAt l1) (sndAt l1) x := by
  have e1 : (withBase b1 l1.length (fstAt l1) (sndAt l1) cat lv) = b1 := by simp [withBase, h]
  have e2 : (withList b1 l1.length (fstAt l1) (sndAt l1) cat lv) = insFin b1 l1.length (fstAt l1) (sndAt l1) cat lv := by simp [withList, h]
  rw [e1, e2, levelB_yes (with_right h) (inB_iff.2 hr), levelB_yes (withOk_out h).1 (inB_iff.2 hr)]
  exact with_else h hx
theorem with_f2 (h : withOk b1 l1.length (fstAt l1) (sndAt l1) cat lv = true) : levelB (withBase b1 l1.length (fstAt l1) (sndAt l1) cat lv) (withList b1 l1.length (fstAt l1) (sndAt l1) cat lv).length (fstAt (withList b1 l1.length (fstAt l1) (sndAt l1) cat lv)) (sndAt (withList b1 l1.length (fstAt l1) (sndAt l1) cat lv)) cat = lv := by
  have e1 : (withBase b1 l1.length (fstAt l1) (sndAt l1) cat lv) = b1 := by simp [withBase, h]
  have e2 : (withList b1 l1.length (fstAt l1) (sndAt l1) cat lv) = insFin b1 l1.length (fstAt l1) (sndAt l1) cat lv := by simp [withList, h]
  rw [e1, e2, levelB_yes (with_right h) (inB_iff.2 (withOk_out h).2.1)]
  exact with_has h
theorem with_f3 (h : withOk b1 l1.length (fstAt l1) (sndAt l1) cat lv = true) : withOk (withBase b1 l1.length (fstAt l1) (sndAt l1) cat lv) (withList b1 l1.length (fstAt l1) (sndAt l1) cat lv).length (fstAt (withList b1 l1.length (fstAt l1) (sndAt l1) cat lv)) (sndAt (withList b1 l1.length (fstAt l1) (sndAt l1) cat lv)) cat (levelB b1 l1.length (fstAt l1) (sndAt l1) cat) = true ∧ withBase (withBase b1 l1.length (fstAt l1) (sndAt l1) cat lv) (withList b1 l1.length (fstAt l1) (sndAt l1) cat lv).length (fstAt (withList b1 l1.length (fstAt l1) (sndAt l1) cat lv)) (sndAt (withList b1 l1.length (fstAt l1) (sndAt l1) cat lv)) cat (levelB b1 l1.length (fstAt l1) (sndAt l1) cat) = b1 ∧ withList (withBase b1 l1.length (fstAt l1) (sndAt l1) cat lv) (withList b1 l1.length (fstAt l1) (sndAt l1) cat lv).length (fstAt (withList b1 l1.length (fstAt l1) (sndAt l1) cat lv)) (sndAt (withList b1 l1.length (fstAt l1) (sndAt l1) cat lv)) cat (levelB b1 l1.length (fstAt l1) (sndAt l1) cat) = l1 := by
  have e1 : (withBase b1 l1.length (fstAt l1) (sndAt l1) cat lv) = b1 := by simp [withBase, h]
  have e2 : (withList b1 l1.length (fstAt l1) (sndAt l1) cat lv) = insFin b1 l1.length (fstAt l1) (sndAt l1) cat lv := by simp [withList, h]
  rw [e1, e2, levelB_yes (withOk_out h).1 (inB_iff.2 (withOk_out h).2.1)]
  have hb := with_back_ok h
  exact ⟨hb, by simp [withBase, hb], by simp [withList, hb, with_back h]⟩
end

set_option maxRecDepth 100000 in
set_option maxHeartbeats 8000000 in
theorem with_walk (a : Option Addr) (n cap : Nat) (w : World) (hb : BytesAt w a n) :
    Calls Try.prog 3 #[.slice a n cap] w fun e w' => e = .returned (.bool true) ∧ Below w.heap.size w w' := by
  have HB : Hid (BytesAt w a n) := hb
  clear hb
  go_enter Try.func3, Try.ntmps3
  go_wp2_with fail
  refine (big_any _ _ _ _).mono ?_
  rintro e w1 ⟨rfl, rfl⟩
  by_cases hn : 1048576 < n
  · have hn' : decide (1048576 < n) = true := by simpa using hn
    rw [hn']
    go_wp2
    go_ret
    exact ⟨rfl, Below.refl _ _⟩
  · have hn' : decide (1048576 < n) = false := by simpa using hn
    rw [hn']
    have hn1 : n ≤ 1048576 := by omega
    clear hn hn'
    go_wp2_with fail
    refine (drawWith_any a n cap _ hn1 HB.out).mono ?_
    rintro e w2 ⟨b1, l1, a1, c1, cat, lv, rfl, k1, hcat, C1, E2⟩
    have K2 := (Below.refl _ w2).alloc (Nat.le_refl _) (.cells #[.int .i64 b1, .slice a1 l1.length c1] 26)
    have X2 := Blk.new w2 (.cells #[.int .i64 b1, .slice a1 l1.length c1] 26)
    have C2 := C1.below K2
    have E2' : Below w1.heap.size w1 (w2.alloc (.cells #[.int .i64 b1, .slice a1 l1.length c1] 26)) := E2.trans (K2.mono E2.size)
    go_wp2_with fail
    generalize w2.alloc (.cells #[.int .i64 b1, .slice a1 l1.length c1] 26) = W2 at *
    generalize w2.heap.size = PL at *
    clear K2 C1 E2 HB
    refine (implWith_any _ _ _ _ _ _ cat lv _ (by unfold maxLen; omega) C2).mono ?_
    rintro e w3 ⟨am, cm, rfl, O3, E3⟩
    have hlm : Hid ((withList b1 l1.length (fstAt l1) (sndAt l1) cat lv).length ≤ 12) := withList_len
    have HF : Hid (withOk b1 l1.length (fstAt l1) (sndAt l1) cat lv = true → (∀ x, x ≠ cat → 1 ≤ x ∧ x ≤ 9999 → levelB (withBase b1 l1.length (fstAt l1) (sndAt l1) cat lv) (withList b1 l1.length (fstAt l1) (sndAt l1) cat lv).length (fstAt (withList b1 l1.length (fstAt l1) (sndAt l1) cat lv)) (sndAt (withList b1 l1.length (fstAt l1) (sndAt l1) cat lv)) x = levelB b1 l1.length (fstAt l1) (sndAt l1) x) ∧ levelB (withBase b1 l1.length (fstAt l1) (sndAt l1) cat lv) (withList b1 l1.length (fstAt l1) (sndAt l1) cat lv).length (fstAt (withList b1 l1.length (fstAt l1) (sndAt l1) cat lv)) (sndAt (withList b1 l1.length (fstAt l1) (sndAt l1) cat lv)) cat = lv ∧ (withOk (withBase b1 l1.length (fstAt l1) (sndAt l1) cat lv) (withList b1 l1.length (fstAt l1) (sndAt l1) cat lv).length (fstAt (withList b1 l1.length (fstAt l1) (sndAt l1) cat lv)) (sndAt (withList b1 l1.length (fstAt l1) (sndAt l1) cat lv)) cat (levelB b1 l1.length (fstAt l1) (sndAt l1) cat) = true ∧ withBase (withBase b1 l1.length (fstAt l1) (sndAt l1) cat lv) (withList b1 l1.length (fstAt l1) (sndAt l1) cat lv).length (fstAt (withList b1 l1.length (fstAt l1) (sndAt l1) cat lv)) (sndAt (withList b1 l1.length (fstAt l1) (sndAt l1) cat lv)) cat (levelB b1 l1.length (fstAt l1) (sndAt l1) cat) = b1 ∧ withList (withBase b1 l1.length (fstAt l1) (sndAt l1) cat lv) (withList b1 l1.length (fstAt l1) (sndAt l1) cat lv).length (fstAt (withList b1 l1.length (fstAt l1) (sndAt l1) cat lv)) (sndAt (withList b1 l1.length (fstAt l1) (sndAt l1) cat lv)) cat (levelB b1 l1.length (fstAt l1) (sndAt l1) cat) = l1)) := fun h => ⟨fun x => with_f1 h, with_f2 h, with_f3 h⟩
    have HS : Hid (∀ W : World, CatsAt W a1 l1.length (fstAt l1) (sndAt l1) → Calls Try.prog 13 #[.agg #[.int .i64 b1, .slice a1 l1.length c1], .int .i64 cat, .int .i64 lv] W fun e w' => ∃ a k, e = .returned (.tuple #[.agg #[.int .i64 (withBase b1 l1.length (fstAt l1) (sndAt l1) cat lv), .slice a (withList b1 l1.length (fstAt l1) (sndAt l1) cat lv).length k], .bool (withOk b1 l1.length (fstAt l1) (sndAt l1) cat lv)]) ∧ OwnList w' W.heap.size (.slice a (withList b1 l1.length (fstAt l1) (sndAt l1) cat lv).length k) (withList b1 l1.length (fstAt l1) (sndAt l1) cat lv) ∧ Below W.heap.size W w') := fun W h => specWith_any _ _ _ _ _ _ cat lv W (by unfold maxLen; omega) h
    generalize (withBase b1 l1.length (fstAt l1) (sndAt l1) cat lv) = bm at *
    generalize (withList b1 l1.length (fstAt l1) (sndAt l1) cat lv) = lm at *
    generalize withOk b1 l1.length (fstAt l1) (sndAt l1) cat lv = ok at *
    have CM := OwnCats.cats O3
    have K3 := (Below.refl _ w3).alloc (Nat.le_refl _) (.cells #[.int .i64 bm, .slice am lm.length cm] 26)
    have X3 := (X2.below E3).below K3
    have M3 := Blk.new w3 (.cells #[.int .i64 bm, .slice am lm.length cm] 26)
    have C3 := (C2.below E3).below K3
    have D3 := CatsAt.below CM K3
    have E3' : Below w1.heap.size w1 (w3.alloc (.cells #[.int .i64 bm, .slice am lm.length cm] 26)) := (E2'.trans (E3.mono E2'.size)).trans (K3.mono (by have := E2'.size; have := E3.size; omega))
    obtain ⟨x1, x2⟩ := X3.two
    go_wp2_with fail
    generalize w3.alloc (.cells #[.int .i64 bm, .slice am lm.length cm] 26) = W3 at *
    generalize w3.heap.size = PM at *
    clear X2 C2 E2' E3 O3 CM K3 x1 x2
    refine (HS.out _ C3).mono ?_
    rintro e w4 ⟨aw, cw, rfl, O4, E4⟩
    have CW := OwnCats.cats O4
    have K4 := (Below.refl _ w4).alloc (Nat.le_refl _) (.cells #[.int .i64 bm, .slice aw lm.length cw] 26)
    have YL := (X3.below E4).below K4
    have YM := (M3.below E4).below K4
    have YW := Blk.new w4 (.cells #[.int .i64 bm, .slice aw lm.length cw] 26)
    have D1 := (C3.below E4).below K4
    have DM := (D3.below E4).below K4
    have DW := CatsAt.below CW K4
    have EV : Below w1.heap.size w1 (w4.alloc (.cells #[.int .i64 bm, .slice aw lm.length cw] 26)) := (E3'.trans (E4.mono E3'.size)).trans (K4.mono (by have := E3'.size; have := E4.size; omega))
    obtain ⟨x1, x2⟩ := YM.two
    obtain ⟨x3, x4⟩ := YW.two
    go_wp2_with fail
    clear x1 x2 x3 x4
    generalize w4.alloc (.cells #[.int .i64 bm, .slice aw lm.length cw] 26) = V at *
    generalize w4.heap.size = PW at *
    clear X3 M3 C3 D3 E3' O4 CW K4 E4 HS
    have h12 := hlm.out
    have cells : ∀ W, Below V.heap.size V W → W.cell? ⟨PL, 0, none⟩ = some (.int .i64 b1) ∧ W.cell? ⟨PL, 1, none⟩ = some (.slice a1 l1.length c1) ∧ W.cell? ⟨PM, 0, none⟩ = some (.int .i64 bm) ∧ W.cell? ⟨PM, 1, none⟩ = some (.slice am lm.length cm) ∧ W.cell? ⟨PW, 0, none⟩ = some (.int .i64 bm) ∧ W.cell? ⟨PW, 1, none⟩ = some (.slice aw lm.length cw) := fun W hW =>
      ⟨(YL.below hW).two.1, (YL.below hW).two.2, (YM.below hW).two.1, (YM.below hW).two.2, (YW.below hW).two.1, (YW.below hW).two.2⟩
    have HC : Hid (∀ W, Below V.heap.size V W → W.cell? ⟨PL, 0, none⟩ = some (.int .i64 b1) ∧ W.cell? ⟨PL, 1, none⟩ = some (.slice a1 l1.length c1) ∧ W.cell? ⟨PM, 0, none⟩ = some (.int .i64 bm) ∧ W.cell? ⟨PM, 1, none⟩ = some (.slice am lm.length cm) ∧ W.cell? ⟨PW, 0, none⟩ = some (.int .i64 bm) ∧ W.cell? ⟨PW, 1, none⟩ = some (.slice aw lm.length cw)) := cells
    have Sm : Hid (∀ W, Below V.heap.size V W → Calls Try.prog 14 #[.agg #[.int .i64 bm, .slice am lm.length cm], .agg #[.int .i64 bm, .slice aw lm.length cw]] W fun e w' => e = .returned (.bool true) ∧ Below W.heap.size W w') := fun W hW => same_any bm am aw lm.length cm cw _ _ W (by omega) (DM.below hW) (DW.below hW)
    have Lm : Hid (∀ y W, Below V.heap.size V W → Calls Try.prog 15 #[.agg #[.int .i64 bm, .slice am lm.length cm], .int .i64 y] W fun e w' => e = .returned (.int .i64 (levelB bm lm.length (fstAt lm) (sndAt lm) y)) ∧ Below W.heap.size W w') := fun y W hW => implLevelOf_any bm am lm.length cm _ _ y W (by unfold maxLen; omega) (DM.below hW)
    have Ll : Hid (∀ y W, Below V.heap.size V W → Calls Try.prog 15 #[.agg #[.int .i64 b1, .slice a1 l1.length c1], .int .i64 y] W fun e w' => e = .returned (.int .i64 (levelB b1 l1.length (fstAt l1) (sndAt l1) y)) ∧ Below W.heap.size W w') := fun y W hW => implLevelOf_any b1 a1 l1.length c1 _ _ y W (by unfold maxLen; omega) (D1.below hW)
    have Wm : Hid (∀ y W, Below V.heap.size V W → Calls Try.prog 12 #[.agg #[.int .i64 bm, .slice am lm.length cm], .int .i64 cat, .int .i64 y] W fun e w' => WithPost bm lm.length (fstAt lm) (sndAt lm) cat y W e w') := fun y W hW => implWith_any bm am lm.length cm _ _ cat y W (by unfold maxLen; omega) (DM.below hW)
    have D1h : Hid (CatsAt V a1 l1.length (fstAt l1) (sndAt l1)) := D1
    clear cells YL YM YW DM DW D1 hlm
    have E0 := Below.refl V.heap.size V
    refine (Sm.out _ E0).mono ?_
    rintro e V1 ⟨rfl, h1⟩
    have E1 := E0.trans (h1.mono E0.size)
    obtain ⟨z0, z1, z2, z3, z4, z5⟩ := HC.out _ E1
    clear h1 E0
    cases ok with
    | false =>
      go_wp2_with fail
      refine (Sm.out _ E1).mono ?_
      rintro e V2 ⟨rfl, h2⟩
      have E3 := E1.trans (h2.mono E1.size)
      clear z0 z1 z2 z3 z4 z5 h2
      go_wp2
      go_ret
      exact ⟨rfl, EV.trans (E3.mono EV.size)⟩
    | true =>
      obtain ⟨F1, F2, F3, F4, F5⟩ := HF.out (by simp)
      have G1 : Hid (∀ x, x ≠ cat → 1 ≤ x ∧ x ≤ 9999 → levelB bm lm.length (fstAt lm) (sndAt lm) x = levelB b1 l1.length (fstAt l1) (sndAt l1) x) := F1
      have G2 : Hid (levelB bm lm.length (fstAt lm) (sndAt lm) cat = lv) := F2
      have G3 : Hid (withOk bm lm.length (fstAt lm) (sndAt lm) cat (levelB b1 l1.length (fstAt l1) (sndAt l1) cat) = true ∧ withBase bm lm.length (fstAt lm) (sndAt lm) cat (levelB b1 l1.length (fstAt l1) (sndAt l1) cat) = b1 ∧ withList bm lm.length (fstAt lm) (sndAt lm) cat (levelB b1 l1.length (fstAt l1) (sndAt l1) cat) = l1) := ⟨F3, F4, F5⟩
      clear F1 F2 F3 F4 F5 HF
      go_wp2
      have K5 := (Below.refl _ V1).alloc (Nat.le_refl _) (.cells #[.int .i64 1001, .int .i64 2001, .int .i64 3001, .int .i64 5, .int .i64 7, .int .i64 9] 2)
      have Q5 := Blk.new V1 (.cells #[.int .i64 1001, .int .i64 2001, .int .i64 3001, .int .i64 5, .int .i64 7, .int .i64 9] 2)
      have E5 : Below V.heap.size V (V1.alloc (.cells #[.int .i64 1001, .int .i64 2001, .int .i64 3001, .int .i64 5, .int .i64 7, .int .i64 9] 2)) := E1.trans (K5.mono E1.size)
      generalize V1.alloc (.cells #[.int .i64 1001, .int .i64 2001, .int .i64 3001, .int .i64 5, .int .i64 7, .int .i64 9] 2) = V5 at *
      generalize V1.heap.size = PQ at *
      clear K5 E1 z0 z1 z2 z3 z4 z5
      go_loopw [11] (fun i wr => ∃ k : Nat, k ≤ 6 ∧ i = .int .i64 k ∧ Below V.heap.size V wr ∧ Blk wr PQ (.cells #[.int .i64 1001, .int .i64 2001, .int .i64 3001, .int .i64 5, .int .i64 7, .int .i64 9] 2)) (fun i _ => 6 - (intOf i).toNat)
      case atStart => exact ⟨0, by omega, rfl, E5, Q5⟩
      case round =>
        obtain ⟨k, hk, rfl, E6, Q6⟩ := hrel
        clear E5 Q5
        by_cases hlt : k < 6
        · have hki : (k : Int) < 6 := by omega
          have y6 := lit6_ok k
          have HQ : Hid (∀ W, Below wr.heap.size wr W → W.cell? ⟨PQ, k, none⟩ = some (.int .i64 (lit6 k)) ∧ (W.cell? ⟨PL, 0, none⟩ = some (.int .i64 b1) ∧ W.cell? ⟨PL, 1, none⟩ = some (.slice a1 l1.length c1) ∧ W.cell? ⟨PM, 0, none⟩ = some (.int .i64 bm) ∧ W.cell? ⟨PM, 1, none⟩ = some (.slice am lm.length cm) ∧ W.cell? ⟨PW, 0, none⟩ = some (.int .i64 bm) ∧ W.cell? ⟨PW, 1, none⟩ = some (.slice aw lm.length cw))) := fun W hW => ⟨lit6_cell (Q6.below hW) hlt, HC.out W (E6.trans (hW.mono E6.size))⟩
          have HQ2 : Hid (∀ W, Below wr.heap.size wr W → Blk W PQ (.cells #[.int .i64 1001, .int .i64 2001, .int .i64 3001, .int .i64 5, .int .i64 7, .int .i64 9] 2)) := fun W hW => Q6.below hW
          have hc0 := lit6_cell Q6 hlt
          have LmY : Hid (∀ W, Below wr.heap.size wr W → Calls Try.prog 15 #[.agg #[.int .i64 bm, .slice am lm.length cm], .int .i64 (lit6 k)] W fun e w' => e = .returned (.int .i64 (levelB bm lm.length (fstAt lm) (sndAt lm) (lit6 k))) ∧ Below W.heap.size W w') := fun W hW => Lm.out _ W (E6.trans (hW.mono E6.size))
          have LlY : Hid (∀ W, Below wr.heap.size wr W → Calls Try.prog 15 #[.agg #[.int .i64 b1, .slice a1 l1.length c1], .int .i64 (lit6 k)] W fun e w' => e = .returned (.int .i64 (levelB b1 l1.length (fstAt l1) (sndAt l1) (lit6 k))) ∧ Below W.heap.size W w') := fun W hW => Ll.out _ W (E6.trans (hW.mono E6.size))
          have GY : Hid (lit6 k ≠ cat → levelB bm lm.length (fstAt lm) (sndAt lm) (lit6 k) = levelB b1 l1.length (fstAt l1) (sndAt l1) (lit6 k)) := fun h => G1.out _ h y6
          generalize lit6 k = y at *
          have ER := Below.refl wr.heap.size wr
          clear Q6
          by_cases hy : y = cat
          · subst hy
            go_wp2_with fail
            refine (wpIn_wide (n := 3)).1 ?_
            refine AnyF.region (fun w' => w'.cell? ⟨PQ, k, none⟩ = some (.int .i64 y) ∧ (w'.cell? ⟨PL, 0, none⟩ = some (.int .i64 b1) ∧ w'.cell? ⟨PL, 1, none⟩ = some (.slice a1 l1.length c1) ∧ w'.cell? ⟨PM, 0, none⟩ = some (.int .i64 bm) ∧ w'.cell? ⟨PM, 1, none⟩ = some (.slice am lm.length cm) ∧ w'.cell? ⟨PW, 0, none⟩ = some (.int .i64 bm) ∧ w'.cell? ⟨PW, 1, none⟩ = some (.slice aw lm.length cw))) [] hmixed ?_
            have ERdy := ER.drew
            have Sy := HQ.out _ ERdy
            refine AnyF.takeD (i := 0) (d := 64) (.slice (some ⟨PQ, 0, none⟩) 6 6) rfl rfl rfl (by kernel_rfl) (by kernel_rfl) (by kernel_rfl) (by kernel_rfl) (by kernel_rfl) (fun _ _ _ h => h) Sy (Or.inl ⟨by rfl, fun w' h => (by dsimp only at h; go_simp)⟩) (fun _ => by rfl) ?_
            simp only [Act.put, List.setIfInBounds_toArray, List.set_cons_zero, List.set_cons_succ]
            refine AnyF.takeD (i := 1) (d := 65) (.int .i64 k) rfl rfl rfl (by kernel_rfl) (by kernel_rfl) (by kernel_rfl) (by kernel_rfl) (by kernel_rfl) (fun _ _ _ h => h) Sy (Or.inl ⟨by rfl, fun w' h => (by dsimp only at h; go_simp)⟩) (fun _ => by rfl) ?_
            simp only [Act.put, List.setIfInBounds_toArray, List.set_cons_zero, List.set_cons_succ]
            refine AnyF.takeD (i := 2) (d := 66) (.pointer (some ⟨PQ, k, none⟩)) rfl rfl rfl (by kernel_rfl) (by kernel_rfl) (by kernel_rfl) (by kernel_rfl) (by kernel_rfl) (fun _ _ _ h => h) Sy (Or.inl ⟨by rfl, fun w' h => (by dsimp only at h; go_simp)⟩) (fun _ => by rfl) ?_
            simp only [Act.put, List.setIfInBounds_toArray, List.set_cons_zero, List.set_cons_succ]
            refine AnyF.takeD (i := 3) (d := 67) (.int .i64 y) rfl rfl rfl (by kernel_rfl) (by kernel_rfl) (by kernel_rfl) (by kernel_rfl) (by kernel_rfl) (fun _ _ _ h => h) Sy (Or.inl ⟨by rfl, fun w' h => (by dsimp only at h; go_simp)⟩) (fun _ => by rfl) ?_
            simp only [Act.put, List.setIfInBounds_toArray, List.set_cons_zero, List.set_cons_succ]
            refine AnyF.takeD (i := 4) (d := 68) (.int .i64 y) rfl rfl rfl (by kernel_rfl) (by kernel_rfl) (by kernel_rfl) (by kernel_rfl) (by kernel_rfl) (fun _ _ _ h => h) Sy (Or.inl ⟨by rfl, fun w' h => (by dsimp only at h; go_simp)⟩) (fun _ => by rfl) ?_
            simp only [Act.put, List.setIfInBounds_toArray, List.set_cons_zero, List.set_cons_succ]
            refine AnyF.takeD (i := 5) (d := 69) (.bool false) rfl rfl rfl (by kernel_rfl) (by kernel_rfl) (by kernel_rfl) (by kernel_rfl) (by kernel_rfl) (fun _ _ _ h => h) Sy (Or.inl ⟨by rfl, fun w' h => (by dsimp only at h; go_simp)⟩) (fun _ => by rfl) ?_
            simp only [Act.put, List.setIfInBounds_toArray, List.set_cons_zero, List.set_cons_succ]
            refine AnyF.takeD (i := 6) (d := 70) (.bool false) rfl rfl rfl (by kernel_rfl) (by kernel_rfl) (by kernel_rfl) (by kernel_rfl) (by kernel_rfl) (fun _ _ _ h => h) Sy (Or.inl ⟨by rfl, fun w' h => (by dsimp only at h; go_simp)⟩) (fun _ => by rfl) ?_
            simp only [Act.put, List.setIfInBounds_toArray, List.set_cons_zero, List.set_cons_succ]
            refine AnyF.skip (i := 7) (d := 71) rfl rfl rfl (by kernel_rfl) (by kernel_rfl) (by kernel_rfl) (by kernel_rfl) (by kernel_rfl) (fun _ _ _ h => h) Sy (by rfl) (fun _ => by rfl) ?_
            simp only [Act.put, List.setIfInBounds_toArray, List.set_cons_zero, List.set_cons_succ]
            refine AnyF.skip (i := 8) (d := 72) rfl rfl rfl (by kernel_rfl) (by kernel_rfl) (by kernel_rfl) (by kernel_rfl) (by kernel_rfl) (fun _ _ _ h => h) Sy (by rfl) (fun _ => by rfl) ?_
            simp only [Act.put, List.setIfInBounds_toArray, List.set_cons_zero, List.set_cons_succ]
            refine AnyF.skip (i := 9) (d := 73) rfl rfl rfl (by kernel_rfl) (by kernel_rfl) (by kernel_rfl) (by kernel_rfl) (by kernel_rfl) (fun _ _ _ h => h) Sy (by rfl) (fun _ => by rfl) ?_
            simp only [Act.put, List.setIfInBounds_toArray, List.set_cons_zero, List.set_cons_succ]
            refine AnyF.skip (i := 10) (d := 74) rfl rfl rfl (by kernel_rfl) (by kernel_rfl) (by kernel_rfl) (by kernel_rfl) (by kernel_rfl) (fun _ _ _ h => h) Sy (by rfl) (fun _ => by rfl) ?_
            simp only [Act.put, List.setIfInBounds_toArray, List.set_cons_zero, List.set_cons_succ]
            refine AnyF.skip (i := 11) (d := 75) rfl rfl rfl (by kernel_rfl) (by kernel_rfl) (by kernel_rfl) (by kernel_rfl) (by kernel_rfl) (fun _ _ _ h => h) Sy (by rfl) (fun _ => by rfl) ?_
            simp only [Act.put, List.setIfInBounds_toArray, List.set_cons_zero, List.set_cons_succ]
            refine AnyF.skipC (i := 12) (d := 76) rfl rfl rfl (by kernel_rfl) (by kernel_rfl) (by kernel_rfl) (by kernel_rfl) (by kernel_rfl) (fun _ _ _ h => h) Sy (by rfl) (fun _ _ _ => trivial) ?_
            simp only [Act.put, List.setIfInBounds_toArray, List.set_cons_zero, List.set_cons_succ]
            refine AnyF.skip (i := 13) (d := 77) rfl rfl rfl (by kernel_rfl) (by kernel_rfl) (by kernel_rfl) (by kernel_rfl) (by kernel_rfl) (fun _ _ _ h => h) Sy (by rfl) (fun _ => by rfl) ?_
            simp only [Act.put, List.setIfInBounds_toArray, List.set_cons_zero, List.set_cons_succ]
            refine AnyF.skip (i := 14) (d := 78) rfl rfl rfl (by kernel_rfl) (by kernel_rfl) (by kernel_rfl) (by kernel_rfl) (by kernel_rfl) (fun _ _ _ h => h) Sy (by rfl) (fun _ => by rfl) ?_
            simp only [Act.put, List.setIfInBounds_toArray, List.set_cons_zero, List.set_cons_succ]
            refine AnyF.skip (i := 15) (d := 79) rfl rfl rfl (by kernel_rfl) (by kernel_rfl) (by kernel_rfl) (by kernel_rfl) (by kernel_rfl) (fun _ _ _ h => h) Sy (by rfl) (fun _ => by rfl) ?_
            simp only [Act.put, List.setIfInBounds_toArray, List.set_cons_zero, List.set_cons_succ]
            refine AnyF.skip (i := 16) (d := 80) rfl rfl rfl (by kernel_rfl) (by kernel_rfl) (by kernel_rfl) (by kernel_rfl) (by kernel_rfl) (fun _ _ _ h => h) Sy (by rfl) (fun _ => by rfl) ?_
            simp only [Act.put, List.setIfInBounds_toArray, List.set_cons_zero, List.set_cons_succ]
            refine AnyF.skip (i := 17) (d := 81) rfl rfl rfl (by kernel_rfl) (by kernel_rfl) (by kernel_rfl) (by kernel_rfl) (by kernel_rfl) (fun _ _ _ h => h) Sy (by rfl) (fun _ => by rfl) ?_
            simp only [Act.put, List.setIfInBounds_toArray, List.set_cons_zero, List.set_cons_succ]
            refine AnyF.skipC (i := 18) (d := 82) rfl rfl rfl (by kernel_rfl) (by kernel_rfl) (by kernel_rfl) (by kernel_rfl) (by kernel_rfl) (fun _ _ _ h => h) Sy (by rfl) (fun _ _ _ => trivial) ?_
            simp only [Act.put, List.setIfInBounds_toArray, List.set_cons_zero, List.set_cons_succ]
            refine AnyF.skip (i := 19) (d := 83) rfl rfl rfl (by kernel_rfl) (by kernel_rfl) (by kernel_rfl) (by kernel_rfl) (by kernel_rfl) (fun _ _ _ h => h) Sy (by rfl) (fun _ => by rfl) ?_
            simp only [Act.put, List.setIfInBounds_toArray, List.set_cons_zero, List.set_cons_succ]
            refine AnyF.takeD (i := 20) (d := 84) (.bool false) rfl rfl rfl (by kernel_rfl) (by kernel_rfl) (by kernel_rfl) (by kernel_rfl) (by kernel_rfl) (fun _ _ _ h => h) Sy (Or.inl ⟨by rfl, fun w' h => (by dsimp only at h; go_simp)⟩) (fun _ => by rfl) ?_
            simp only [Act.put, List.setIfInBounds_toArray, List.set_cons_zero, List.set_cons_succ]
            refine AnyF.done (by kernel_rfl) ?_
            go_wp2
            go_roundw
            case rel => exact ⟨k + 1, by omega, by go_num, E6.trans (ERdy.mono E6.size), HQ2.out _ ERdy⟩
            case measure => simp [intOf]; omega
          · have hyn : (y == cat) = false := by simpa using hy
            have GZ := GY.out hy
            obtain ⟨zz, hzz⟩ : ∃ zz, zz = levelB b1 l1.length (fstAt l1) (sndAt l1) y := ⟨_, rfl⟩
            rw [GZ, ← hzz] at LmY
            rw [← hzz] at LlY
            clear hzz GZ GY
            go_wp2_with fail
            refine (wpIn_wide (n := 3)).1 ?_
            refine AnyF.region (fun w' => w'.cell? ⟨PQ, k, none⟩ = some (.int .i64 y) ∧ (w'.cell? ⟨PL, 0, none⟩ = some (.int .i64 b1) ∧ w'.cell? ⟨PL, 1, none⟩ = some (.slice a1 l1.length c1) ∧ w'.cell? ⟨PM, 0, none⟩ = some (.int .i64 bm) ∧ w'.cell? ⟨PM, 1, none⟩ = some (.slice am lm.length cm) ∧ w'.cell? ⟨PW, 0, none⟩ = some (.int .i64 bm) ∧ w'.cell? ⟨PW, 1, none⟩ = some (.slice aw lm.length cw))) [] hmixed ?_
            have ERdy := ER.drew
            have Sy := HQ.out _ ERdy
            refine AnyF.takeD (i := 0) (d := 64) (.slice (some ⟨PQ, 0, none⟩) 6 6) rfl rfl rfl (by kernel_rfl) (by kernel_rfl) (by kernel_rfl) (by kernel_rfl) (by kernel_rfl) (fun _ _ _ h => h) Sy (Or.inl ⟨by rfl, fun w' h => (by dsimp only at h; go_simp)⟩) (fun _ => by rfl) ?_
            simp only [Act.put, List.setIfInBounds_toArray, List.set_cons_zero, List.set_cons_succ]
            refine AnyF.takeD (i := 1) (d := 65) (.int .i64 k) rfl rfl rfl (by kernel_rfl) (by kernel_rfl) (by kernel_rfl) (by kernel_rfl) (by kernel_rfl) (fun _ _ _ h => h) Sy (Or.inl ⟨by rfl, fun w' h => (by dsimp only at h; go_simp)⟩) (fun _ => by rfl) ?_
            simp only [Act.put, List.setIfInBounds_toArray, List.set_cons_zero, List.set_cons_succ]
            refine AnyF.takeD (i := 2) (d := 66) (.pointer (some ⟨PQ, k, none⟩)) rfl rfl rfl (by kernel_rfl) (by kernel_rfl) (by kernel_rfl) (by kernel_rfl) (by kernel_rfl) (fun _ _ _ h => h) Sy (Or.inl ⟨by rfl, fun w' h => (by dsimp only at h; go_simp)⟩) (fun _ => by rfl) ?_
            simp only [Act.put, List.setIfInBounds_toArray, List.set_cons_zero, List.set_cons_succ]
            refine AnyF.takeD (i := 3) (d := 67) (.int .i64 y) rfl rfl rfl (by kernel_rfl) (by kernel_rfl) (by kernel_rfl) (by kernel_rfl) (by kernel_rfl) (fun _ _ _ h => h) Sy (Or.inl ⟨by rfl, fun w' h => (by dsimp only at h; go_simp)⟩) (fun _ => by rfl) ?_
            simp only [Act.put, List.setIfInBounds_toArray, List.set_cons_zero, List.set_cons_succ]
            refine AnyF.takeD (i := 4) (d := 68) (.int .i64 cat) rfl rfl rfl (by kernel_rfl) (by kernel_rfl) (by kernel_rfl) (by kernel_rfl) (by kernel_rfl) (fun _ _ _ h => h) Sy (Or.inl ⟨by rfl, fun w' h => (by dsimp only at h; go_simp)⟩) (fun _ => by rfl) ?_
            simp only [Act.put, List.setIfInBounds_toArray, List.set_cons_zero, List.set_cons_succ]
            refine AnyF.takeD (i := 5) (d := 69) (.bool true) rfl rfl rfl (by kernel_rfl) (by kernel_rfl) (by kernel_rfl) (by kernel_rfl) (by kernel_rfl) (fun _ _ _ h => h) Sy (Or.inl ⟨by rfl, fun w' h => (by dsimp only at h; go_simp)⟩) (fun _ => by rfl) ?_
            simp only [Act.put, List.setIfInBounds_toArray, List.set_cons_zero, List.set_cons_succ]
            refine AnyF.takeD (i := 6) (d := 70) (.bool true) rfl rfl rfl (by kernel_rfl) (by kernel_rfl) (by kernel_rfl) (by kernel_rfl) (by kernel_rfl) (fun _ _ _ h => h) Sy (Or.inl ⟨by rfl, fun w' h => (by dsimp only at h; go_simp)⟩) (fun _ => by rfl) ?_
            simp only [Act.put, List.setIfInBounds_toArray, List.set_cons_zero, List.set_cons_succ]
            refine AnyF.takeD (i := 7) (d := 71) (.agg #[.int .i64 bm, .slice am lm.length cm]) rfl rfl rfl (by kernel_rfl) (by kernel_rfl) (by kernel_rfl) (by kernel_rfl) (by kernel_rfl) (fun _ _ _ h => h) Sy (Or.inl ⟨by rfl, fun w' h => (by dsimp only at h; go_simp)⟩) (fun _ => by rfl) ?_
            simp only [Act.put, List.setIfInBounds_toArray, List.set_cons_zero, List.set_cons_succ]
            refine AnyF.takeD (i := 8) (d := 72) (.slice (some ⟨PQ, 0, none⟩) 6 6) rfl rfl rfl (by kernel_rfl) (by kernel_rfl) (by kernel_rfl) (by kernel_rfl) (by kernel_rfl) (fun _ _ _ h => h) Sy (Or.inl ⟨by rfl, fun w' h => (by dsimp only at h; go_simp)⟩) (fun _ => by rfl) ?_
            simp only [Act.put, List.setIfInBounds_toArray, List.set_cons_zero, List.set_cons_succ]
            refine AnyF.takeD (i := 9) (d := 73) (.int .i64 k) rfl rfl rfl (by kernel_rfl) (by kernel_rfl) (by kernel_rfl) (by kernel_rfl) (by kernel_rfl) (fun _ _ _ h => h) Sy (Or.inl ⟨by rfl, fun w' h => (by dsimp only at h; go_simp)⟩) (fun _ => by rfl) ?_
            simp only [Act.put, List.setIfInBounds_toArray, List.set_cons_zero, List.set_cons_succ]
            refine AnyF.takeD (i := 10) (d := 74) (.pointer (some ⟨PQ, k, none⟩)) rfl rfl rfl (by kernel_rfl) (by kernel_rfl) (by kernel_rfl) (by kernel_rfl) (by kernel_rfl) (fun _ _ _ h => h) Sy (Or.inl ⟨by rfl, fun w' h => (by dsimp only at h; go_simp)⟩) (fun _ => by rfl) ?_
            simp only [Act.put, List.setIfInBounds_toArray, List.set_cons_zero, List.set_cons_succ]
            refine AnyF.takeD (i := 11) (d := 75) (.int .i64 y) rfl rfl rfl (by kernel_rfl) (by kernel_rfl) (by kernel_rfl) (by kernel_rfl) (by kernel_rfl) (fun _ _ _ h => h) Sy (Or.inl ⟨by rfl, fun w' h => (by dsimp only at h; go_simp)⟩) (fun _ => by rfl) ?_
            simp only [Act.put, List.setIfInBounds_toArray, List.set_cons_zero, List.set_cons_succ]
            refine AnyF.takeD (i := 13) (d := 77) (.agg #[.int .i64 b1, .slice a1 l1.length c1]) rfl rfl rfl (by kernel_rfl) (by kernel_rfl) (by kernel_rfl) (by kernel_rfl) (by kernel_rfl) (fun _ _ _ h => h) Sy (Or.inl ⟨by rfl, fun w' h => (by dsimp only at h; go_simp)⟩) (fun _ => by rfl) ?_
            simp only [Act.put, List.setIfInBounds_toArray, List.set_cons_zero, List.set_cons_succ]
            refine AnyF.takeD (i := 14) (d := 78) (.slice (some ⟨PQ, 0, none⟩) 6 6) rfl rfl rfl (by kernel_rfl) (by kernel_rfl) (by kernel_rfl) (by kernel_rfl) (by kernel_rfl) (fun _ _ _ h => h) Sy (Or.inl ⟨by rfl, fun w' h => (by dsimp only at h; go_simp)⟩) (fun _ => by rfl) ?_
            simp only [Act.put, List.setIfInBounds_toArray, List.set_cons_zero, List.set_cons_succ]
            refine AnyF.takeD (i := 15) (d := 79) (.int .i64 k) rfl rfl rfl (by kernel_rfl) (by kernel_rfl) (by kernel_rfl) (by kernel_rfl) (by kernel_rfl) (fun _ _ _ h => h) Sy (Or.inl ⟨by rfl, fun w' h => (by dsimp only at h; go_simp)⟩) (fun _ => by rfl) ?_
            simp only [Act.put, List.setIfInBounds_toArray, List.set_cons_zero, List.set_cons_succ]
            refine AnyF.takeD (i := 16) (d := 80) (.pointer (some ⟨PQ, k, none⟩)) rfl rfl rfl (by kernel_rfl) (by kernel_rfl) (by kernel_rfl) (by kernel_rfl) (by kernel_rfl) (fun _ _ _ h => h) Sy (Or.inl ⟨by rfl, fun w' h => (by dsimp only at h; go_simp)⟩) (fun _ => by rfl) ?_
            simp only [Act.put, List.setIfInBounds_toArray, List.set_cons_zero, List.set_cons_succ]
            refine AnyF.takeD (i := 17) (d := 81) (.int .i64 y) rfl rfl rfl (by kernel_rfl) (by kernel_rfl) (by kernel_rfl) (by kernel_rfl) (by kernel_rfl) (fun _ _ _ h => h) Sy (Or.inl ⟨by rfl, fun w' h => (by dsimp only at h; go_simp)⟩) (fun _ => by rfl) ?_
            simp only [Act.put, List.setIfInBounds_toArray, List.set_cons_zero, List.set_cons_succ]
            refine AnyF.one (i := 12) rfl (by kernel_rfl) (fun K1 hK1 => ?_)
            go_simp
            refine ⟨trivial, ?_⟩
            refine (callsIn_wide.2 (LmY.out _ ERdy)).mono ?_
            rintro e vy1 ⟨rfl, hby1⟩
            have Ey1 := ERdy.trans (hby1.mono ERdy.size)
            have Sy1 := HQ.out _ Ey1
            refine hK1.out _ _ (fun _ => Sy1) ?_
            clear hK1 K1 hby1 ERdy Sy
            refine AnyF.one (i := 18) rfl (by kernel_rfl) (fun K1 hK1 => ?_)
            go_simp
            refine ⟨trivial, ?_⟩
            refine (callsIn_wide.2 (LlY.out _ Ey1)).mono ?_
            rintro e vy2 ⟨rfl, hby2⟩
            have Ey2 := Ey1.trans (hby2.mono Ey1.size)
            have Sy2 := HQ.out _ Ey2
            refine hK1.out _ _ (fun _ => Sy2) ?_
            clear hK1 K1 hby2 Ey1 Sy1
            refine AnyF.takeD (i := 19) (d := 83) (.bool false) rfl rfl rfl (by kernel_rfl) (by kernel_rfl) (by kernel_rfl) (by kernel_rfl) (by kernel_rfl) (fun _ _ _ h => h) Sy2 (Or.inl ⟨by rfl, fun w' h => (by dsimp only at h; go_simp)⟩) (fun _ => by rfl) ?_
            simp only [Act.put, List.setIfInBounds_toArray, List.set_cons_zero, List.set_cons_succ]
            refine AnyF.takeD (i := 20) (d := 84) (.bool false) rfl rfl rfl (by kernel_rfl) (by kernel_rfl) (by kernel_rfl) (by kernel_rfl) (by kernel_rfl) (fun _ _ _ h => h) Sy2 (Or.inl ⟨by rfl, fun w' h => (by dsimp only at h; go_simp)⟩) (fun _ => by rfl) ?_
            simp only [Act.put, List.setIfInBounds_toArray, List.set_cons_zero, List.set_cons_succ]
            refine AnyF.done (by kernel_rfl) ?_
            go_wp2
            go_roundw
            case rel => exact ⟨k + 1, by omega, by go_num, E6.trans (Ey2.mono E6.size), HQ2.out _ Ey2⟩
            case measure => simp [intOf]; omega
        · have hk6 : k = 6 := by omega
          subst hk6
          clear Q6
          have LlC : Hid (∀ W, Below V.heap.size V W → Calls Try.prog 15 #[.agg #[.int .i64 b1, .slice a1 l1.length c1], .int .i64 cat] W fun e w' => e = .returned (.int .i64 (levelB b1 l1.length (fstAt l1) (sndAt l1) cat)) ∧ Below W.heap.size W w') := fun W hW => Ll.out cat W hW
          have LmC : Hid (∀ W, Below V.heap.size V W → Calls Try.prog 15 #[.agg #[.int .i64 bm, .slice am lm.length cm], .int .i64 cat] W fun e w' => e = .returned (.int .i64 lv) ∧ Below W.heap.size W w') := fun W hW => by have := Lm.out cat W hW; rw [G2.out] at this; exact this
          have WmC : Hid (∀ W, Below V.heap.size V W → Calls Try.prog 12 #[.agg #[.int .i64 bm, .slice am lm.length cm], .int .i64 cat, .int .i64 (levelB b1 l1.length (fstAt l1) (sndAt l1) cat)] W fun e w' => ∃ ab kb, e = .returned (.tuple #[.agg #[.int .i64 b1, .slice ab l1.length kb], .bool true]) ∧ OwnList w' W.heap.size (.slice ab l1.length kb) l1 ∧ Below W.heap.size W w') := fun W hW => by
            refine (Wm.out _ W hW).mono ?_
            rintro e w' ⟨ab, kb, he, ho, hbb⟩
            obtain ⟨g3, g4, g5⟩ := G3.out
            rw [g3, g4, g5] at he
            rw [g5] at ho
            exact ⟨ab, kb, he, ho, hbb⟩
          clear Lm Ll Wm Sm G1 G2 G3
          generalize levelB b1 l1.length (fstAt l1) (sndAt l1) cat = lc at *
          go_upto_region 14 with fail
          go_cut [12, 13] (fun p q wc => ∃ (Pz : Nat) (ab : Option Addr) (kb : Nat), p = .pointer (some ⟨Pz, 0, none⟩) ∧ q = .bool true ∧ Blk wc Pz (.cells #[.int .i64 b1, .slice ab l1.length kb] 26) ∧ CatsAt wc ab l1.length (fstAt l1) (sndAt l1) ∧ Below V.heap.size V wc)
          case first =>
            obtain ⟨z0, z1, z2, z3, z4, z5⟩ := HC.out _ E6.drew
            have S0 : wr.drew.cell? ⟨PL, 0, none⟩ = some (.int .i64 b1) ∧ wr.drew.cell? ⟨PL, 1, none⟩ = some (.slice a1 l1.length c1) ∧ wr.drew.cell? ⟨PM, 0, none⟩ = some (.int .i64 bm) ∧ wr.drew.cell? ⟨PM, 1, none⟩ = some (.slice am lm.length cm) := ⟨z0, z1, z2, z3⟩
            have EE := E6.drew
            clear z0 z1 z2 z3 z4 z5 E6
            refine (wpIn_wide (n := 3)).1 ?_
            refine AnyF.region (fun w' => w'.cell? ⟨PL, 0, none⟩ = some (.int .i64 b1) ∧ w'.cell? ⟨PL, 1, none⟩ = some (.slice a1 l1.length c1) ∧ w'.cell? ⟨PM, 0, none⟩ = some (.int .i64 bm) ∧ w'.cell? ⟨PM, 1, none⟩ = some (.slice am lm.length cm)) [] hmixed ?_
            generalize wr.drew = v0 at *
            refine AnyF.takeD (i := 0) (d := 86) (.agg #[.int .i64 bm, .slice am lm.length cm]) rfl rfl rfl (by kernel_rfl) (by kernel_rfl) (by kernel_rfl) (by kernel_rfl) (by kernel_rfl) (fun _ _ _ h => h) S0 (Or.inl ⟨by rfl, fun w' h => (by dsimp only at h; go_simp)⟩) (fun _ => by rfl) ?_
            simp only [Act.put, List.setIfInBounds_toArray, List.set_cons_zero, List.set_cons_succ]
            refine AnyF.takeD (i := 1) (d := 87) (.int .i64 cat) rfl rfl rfl (by kernel_rfl) (by kernel_rfl) (by kernel_rfl) (by kernel_rfl) (by kernel_rfl) (fun _ _ _ h => h) S0 (Or.inl ⟨by rfl, fun w' h => (by dsimp only at h; go_simp)⟩) (fun _ => by rfl) ?_
            simp only [Act.put, List.setIfInBounds_toArray, List.set_cons_zero, List.set_cons_succ]
            refine AnyF.takeD (i := 2) (d := 88) (.agg #[.int .i64 b1, .slice a1 l1.length c1]) rfl rfl rfl (by kernel_rfl) (by kernel_rfl) (by kernel_rfl) (by kernel_rfl) (by kernel_rfl) (fun _ _ _ h => h) S0 (Or.inl ⟨by rfl, fun w' h => (by dsimp only at h; go_simp)⟩) (fun _ => by rfl) ?_
            simp only [Act.put, List.setIfInBounds_toArray, List.set_cons_zero, List.set_cons_succ]
            refine AnyF.takeD (i := 3) (d := 89) (.int .i64 cat) rfl rfl rfl (by kernel_rfl) (by kernel_rfl) (by kernel_rfl) (by kernel_rfl) (by kernel_rfl) (fun _ _ _ h => h) S0 (Or.inl ⟨by rfl, fun w' h => (by dsimp only at h; go_simp)⟩) (fun _ => by rfl) ?_
            simp only [Act.put, List.setIfInBounds_toArray, List.set_cons_zero, List.set_cons_succ]
            refine AnyF.two (i := 4) (j := 9) rfl rfl (by kernel_rfl) (fun K1 hK1 => ?_) (fun K1 hK1 => ?_)
            · go_simp
              refine ⟨trivial, ?_⟩
              refine (callsIn_wide.2 (LlC.out _ EE)).mono ?_
              rintro e v1 ⟨rfl, hba⟩
              have Ea := EE.trans (hba.mono EE.size)
              have Sa := (fun W (hW : Below V.heap.size V W) => (show W.cell? ⟨PL, 0, none⟩ = some (.int .i64 b1) ∧ W.cell? ⟨PL, 1, none⟩ = some (.slice a1 l1.length c1) ∧ W.cell? ⟨PM, 0, none⟩ = some (.int .i64 bm) ∧ W.cell? ⟨PM, 1, none⟩ = some (.slice am lm.length cm) from ⟨(HC.out W hW).1, (HC.out W hW).2.1, (HC.out W hW).2.2.1, (HC.out W hW).2.2.2.1⟩)) _ Ea
              refine hK1.out _ _ (fun _ => Sa) ?_
              clear hK1 K1 S0 EE hba
              refine AnyF.two (i := 5) (j := 9) rfl rfl (by kernel_rfl) (fun K1 hK1 => ?_) (fun K1 hK1 => ?_)
              · go_simp
                refine ⟨trivial, ?_⟩
                refine (callsIn_wide.2 (WmC.out _ Ea)).mono ?_
                rintro e v2 ⟨ab, kb, rfl, Ob, hbb⟩
                have Eb := Ea.trans (hbb.mono Ea.size)
                have Sb := (fun W (hW : Below V.heap.size V W) => (show W.cell? ⟨PL, 0, none⟩ = some (.int .i64 b1) ∧ W.cell? ⟨PL, 1, none⟩ = some (.slice a1 l1.length c1) ∧ W.cell? ⟨PM, 0, none⟩ = some (.int .i64 bm) ∧ W.cell? ⟨PM, 1, none⟩ = some (.slice am lm.length cm) from ⟨(HC.out W hW).1, (HC.out W hW).2.1, (HC.out W hW).2.2.1, (HC.out W hW).2.2.2.1⟩)) _ Eb
                refine hK1.out _ _ (fun _ => Sb) ?_
                clear hK1 K1 Sa Ea
                refine AnyF.takeD (i := 6) (d := 85) (.tuple #[.agg #[.int .i64 b1, .slice ab l1.length kb], .bool true]) rfl rfl rfl (by kernel_rfl) (by kernel_rfl) (by kernel_rfl) (by kernel_rfl) (by kernel_rfl) (fun _ _ _ h => h) Sb (Or.inl ⟨by rfl, fun w' h => (by dsimp only at h; go_simp)⟩) (fun _ => by rfl) ?_
                simp only [Act.put, List.setIfInBounds_toArray, List.set_cons_zero, List.set_cons_succ]
                refine AnyF.takeD (i := 7) (d := 92) (.agg #[.int .i64 b1, .slice ab l1.length kb]) rfl rfl rfl (by kernel_rfl) (by kernel_rfl) (by kernel_rfl) (by kernel_rfl) (by kernel_rfl) (fun _ _ _ h => h) Sb (Or.inl ⟨by rfl, fun w' h => (by dsimp only at h; go_simp)⟩) (fun _ => by rfl) ?_
                simp only [Act.put, List.setIfInBounds_toArray, List.set_cons_zero, List.set_cons_succ]
                refine AnyF.takeD (i := 8) (d := 93) (.bool true) rfl rfl rfl (by kernel_rfl) (by kernel_rfl) (by kernel_rfl) (by kernel_rfl) (by kernel_rfl) (fun _ _ _ h => h) Sb (Or.inl ⟨by rfl, fun w' h => (by dsimp only at h; go_simp)⟩) (fun _ => by rfl) ?_
                simp only [Act.put, List.setIfInBounds_toArray, List.set_cons_zero, List.set_cons_succ]
                refine AnyF.one (i := 9) rfl (by kernel_rfl) (fun K1 hK1 => ?_)
                go_simp
                have Kz := (Below.refl _ v2).alloc (Nat.le_refl _) (.cells #[.int .i64 0, .slice none 0 0] 26)
                have Bz := Blk.new v2 (.cells #[.int .i64 0, .slice none 0 0] 26)
                have hPz : V.heap.size ≤ v2.heap.size := Eb.size
                have Ec := Eb.trans (Kz.mono Eb.size)
                have Sc := (fun W (hW : Below V.heap.size V W) => (show W.cell? ⟨PL, 0, none⟩ = some (.int .i64 b1) ∧ W.cell? ⟨PL, 1, none⟩ = some (.slice a1 l1.length c1) ∧ W.cell? ⟨PM, 0, none⟩ = some (.int .i64 bm) ∧ W.cell? ⟨PM, 1, none⟩ = some (.slice am lm.length cm) from ⟨(HC.out W hW).1, (HC.out W hW).2.1, (HC.out W hW).2.2.1, (HC.out W hW).2.2.2.1⟩)) _ Ec
                refine hK1.out _ _ (fun _ => Sc) ?_
                have lo : ∀ j, (Value.slice ab l1.length kb).ownBlock = some j → j < v2.heap.size := fun j e => (World.ownsRow.lt Ob j e).2
                have Oz := OwnList.below Ob Kz
                clear hK1 K1 Kz
                generalize v2.alloc (.cells #[.int .i64 0, .slice none 0 0] 26) = u at *
                generalize hPe : v2.heap.size = Pz at *
                have Eu := Ec
                have Cz : CatsAt ((u.setCell ⟨Pz, 0, none⟩ (.int .i64 b1)).setCell ⟨Pz, 1, none⟩ (.slice ab l1.length kb)) ab l1.length (fstAt l1) (sndAt l1) := OwnCats.cats (World.ownsRow.kept Oz (grown_set (grown_set (grown_refl u Pz) 0 _) 1 _) (Or.inr (fun e => by have := lo _ e; omega)))
                clear hPe lo
                obtain ⟨x0, x1⟩ := Bz.two
                have xf0 := Bz.frozen2 0
                have xf1 := Bz.frozen2 1
                refine AnyF.one (i := 10) rfl (by kernel_rfl) (fun K1 hK1 => ?_)
                go_simp
                have Ez := (Eu.setCell (p := ⟨Pz, 0, none⟩) hPz (.int .i64 b1)).setCell (p := ⟨Pz, 1, none⟩) hPz (.slice ab l1.length kb)
                have Sz := (fun W (hW : Below V.heap.size V W) => (show W.cell? ⟨PL, 0, none⟩ = some (.int .i64 b1) ∧ W.cell? ⟨PL, 1, none⟩ = some (.slice a1 l1.length c1) ∧ W.cell? ⟨PM, 0, none⟩ = some (.int .i64 bm) ∧ W.cell? ⟨PM, 1, none⟩ = some (.slice am lm.length cm) from ⟨(HC.out W hW).1, (HC.out W hW).2.1, (HC.out W hW).2.2.1, (HC.out W hW).2.2.2.1⟩)) _ Ez
                refine hK1.out _ _ (fun _ => Sz) ?_
                clear hK1 K1
                refine AnyF.takeD (i := 11) (d := 13) (.bool true) rfl rfl rfl (by kernel_rfl) (by kernel_rfl) (by kernel_rfl) (by kernel_rfl) (by kernel_rfl) (fun _ _ _ h => h) Sz (Or.inl ⟨by rfl, fun w' h => (by dsimp only at h; go_simp)⟩) (fun _ => by rfl) ?_
                simp only [Act.put, List.setIfInBounds_toArray, List.set_cons_zero, List.set_cons_succ]
                refine AnyF.done (by kernel_rfl) ?_
                go_wp2_with fail
                go_meet
                case rel => exact ⟨Pz, ab, kb, rfl, rfl, (Bz.set0 _).set1 _, Cz, Ez⟩
              · go_simp
                have Kz := (Below.refl _ v1).alloc (Nat.le_refl _) (.cells #[.int .i64 0, .slice none 0 0] 26)
                have Bz := Blk.new v1 (.cells #[.int .i64 0, .slice none 0 0] 26)
                have hPz : V.heap.size ≤ v1.heap.size := Ea.size
                have Ec := Ea.trans (Kz.mono Ea.size)
                have Sc := (fun W (hW : Below V.heap.size V W) => (show W.cell? ⟨PL, 0, none⟩ = some (.int .i64 b1) ∧ W.cell? ⟨PL, 1, none⟩ = some (.slice a1 l1.length c1) ∧ W.cell? ⟨PM, 0, none⟩ = some (.int .i64 bm) ∧ W.cell? ⟨PM, 1, none⟩ = some (.slice am lm.length cm) from ⟨(HC.out W hW).1, (HC.out W hW).2.1, (HC.out W hW).2.2.1, (HC.out W hW).2.2.2.1⟩)) _ Ec
                refine hK1.out _ _ (fun _ => Sc) ?_
                clear hK1 K1 Sa Ea Kz
                have hlt := Bz.lt
                generalize v1.alloc (.cells #[.int .i64 0, .slice none 0 0] 26) = v2 at *
                generalize v1.heap.size = Pz at *
                refine AnyF.one (i := 5) rfl (by kernel_rfl) (fun K1 hK1 => ?_)
                go_simp
                refine ⟨trivial, ?_⟩
                refine (callsIn_wide.2 (WmC.out _ Ec)).mono ?_
                rintro e u ⟨ab, kb, rfl, Ob, hbd⟩
                have Ed := Ec.trans (hbd.mono Ec.size)
                have Sd := (fun W (hW : Below V.heap.size V W) => (show W.cell? ⟨PL, 0, none⟩ = some (.int .i64 b1) ∧ W.cell? ⟨PL, 1, none⟩ = some (.slice a1 l1.length c1) ∧ W.cell? ⟨PM, 0, none⟩ = some (.int .i64 bm) ∧ W.cell? ⟨PM, 1, none⟩ = some (.slice am lm.length cm) from ⟨(HC.out W hW).1, (HC.out W hW).2.1, (HC.out W hW).2.2.1, (HC.out W hW).2.2.2.1⟩)) _ Ed
                refine hK1.out _ _ (fun _ => Sd) ?_
                clear hK1 K1
                have Bz := Bz.below hbd
                refine AnyF.takeD (i := 6) (d := 85) (.tuple #[.agg #[.int .i64 b1, .slice ab l1.length kb], .bool true]) rfl rfl rfl (by kernel_rfl) (by kernel_rfl) (by kernel_rfl) (by kernel_rfl) (by kernel_rfl) (fun _ _ _ h => h) Sd (Or.inl ⟨by rfl, fun w' h => (by dsimp only at h; go_simp)⟩) (fun _ => by rfl) ?_
                simp only [Act.put, List.setIfInBounds_toArray, List.set_cons_zero, List.set_cons_succ]
                refine AnyF.takeD (i := 7) (d := 92) (.agg #[.int .i64 b1, .slice ab l1.length kb]) rfl rfl rfl (by kernel_rfl) (by kernel_rfl) (by kernel_rfl) (by kernel_rfl) (by kernel_rfl) (fun _ _ _ h => h) Sd (Or.inl ⟨by rfl, fun w' h => (by dsimp only at h; go_simp)⟩) (fun _ => by rfl) ?_
                simp only [Act.put, List.setIfInBounds_toArray, List.set_cons_zero, List.set_cons_succ]
                refine AnyF.takeD (i := 8) (d := 93) (.bool true) rfl rfl rfl (by kernel_rfl) (by kernel_rfl) (by kernel_rfl) (by kernel_rfl) (by kernel_rfl) (fun _ _ _ h => h) Sd (Or.inl ⟨by rfl, fun w' h => (by dsimp only at h; go_simp)⟩) (fun _ => by rfl) ?_
                simp only [Act.put, List.setIfInBounds_toArray, List.set_cons_zero, List.set_cons_succ]
                have Eu := Ed
                have Cz : CatsAt ((u.setCell ⟨Pz, 0, none⟩ (.int .i64 b1)).setCell ⟨Pz, 1, none⟩ (.slice ab l1.length kb)) ab l1.length (fstAt l1) (sndAt l1) := OwnCats.cats (OwnList.set (OwnList.set Ob (P := Pz) (by omega) 0 _) (P := Pz) (by omega) 1 _)
                obtain ⟨x0, x1⟩ := Bz.two
                have xf0 := Bz.frozen2 0
                have xf1 := Bz.frozen2 1
                refine AnyF.one (i := 10) rfl (by kernel_rfl) (fun K1 hK1 => ?_)
                go_simp
                have Ez := (Eu.setCell (p := ⟨Pz, 0, none⟩) hPz (.int .i64 b1)).setCell (p := ⟨Pz, 1, none⟩) hPz (.slice ab l1.length kb)
                have Sz := (fun W (hW : Below V.heap.size V W) => (show W.cell? ⟨PL, 0, none⟩ = some (.int .i64 b1) ∧ W.cell? ⟨PL, 1, none⟩ = some (.slice a1 l1.length c1) ∧ W.cell? ⟨PM, 0, none⟩ = some (.int .i64 bm) ∧ W.cell? ⟨PM, 1, none⟩ = some (.slice am lm.length cm) from ⟨(HC.out W hW).1, (HC.out W hW).2.1, (HC.out W hW).2.2.1, (HC.out W hW).2.2.2.1⟩)) _ Ez
                refine hK1.out _ _ (fun _ => Sz) ?_
                clear hK1 K1
                refine AnyF.takeD (i := 11) (d := 13) (.bool true) rfl rfl rfl (by kernel_rfl) (by kernel_rfl) (by kernel_rfl) (by kernel_rfl) (by kernel_rfl) (fun _ _ _ h => h) Sz (Or.inl ⟨by rfl, fun w' h => (by dsimp only at h; go_simp)⟩) (fun _ => by rfl) ?_
                simp only [Act.put, List.setIfInBounds_toArray, List.set_cons_zero, List.set_cons_succ]
                refine AnyF.done (by kernel_rfl) ?_
                go_wp2_with fail
                go_meet
                case rel => exact ⟨Pz, ab, kb, rfl, rfl, (Bz.set0 _).set1 _, Cz, Ez⟩
            · go_simp
              have Kz := (Below.refl _ v0).alloc (Nat.le_refl _) (.cells #[.int .i64 0, .slice none 0 0] 26)
              have Bz := Blk.new v0 (.cells #[.int .i64 0, .slice none 0 0] 26)
              have hPz : V.heap.size ≤ v0.heap.size := EE.size
              have Ec := EE.trans (Kz.mono EE.size)
              have Sc := (fun W (hW : Below V.heap.size V W) => (show W.cell? ⟨PL, 0, none⟩ = some (.int .i64 b1) ∧ W.cell? ⟨PL, 1, none⟩ = some (.slice a1 l1.length c1) ∧ W.cell? ⟨PM, 0, none⟩ = some (.int .i64 bm) ∧ W.cell? ⟨PM, 1, none⟩ = some (.slice am lm.length cm) from ⟨(HC.out W hW).1, (HC.out W hW).2.1, (HC.out W hW).2.2.1, (HC.out W hW).2.2.2.1⟩)) _ Ec
              refine hK1.out _ _ (fun _ => Sc) ?_
              clear hK1 K1 S0 EE Kz
              have hlt0 := Bz.lt
              generalize v0.alloc (.cells #[.int .i64 0, .slice none 0 0] 26) = v1 at *
              generalize v0.heap.size = Pz at *
              refine AnyF.one (i := 4) rfl (by kernel_rfl) (fun K1 hK1 => ?_)
              go_simp
              refine ⟨trivial, ?_⟩
              refine (callsIn_wide.2 (LlC.out _ Ec)).mono ?_
              rintro e v2 ⟨rfl, hbf⟩
              have Ef := Ec.trans (hbf.mono Ec.size)
              have Sf := (fun W (hW : Below V.heap.size V W) => (show W.cell? ⟨PL, 0, none⟩ = some (.int .i64 b1) ∧ W.cell? ⟨PL, 1, none⟩ = some (.slice a1 l1.length c1) ∧ W.cell? ⟨PM, 0, none⟩ = some (.int .i64 bm) ∧ W.cell? ⟨PM, 1, none⟩ = some (.slice am lm.length cm) from ⟨(HC.out W hW).1, (HC.out W hW).2.1, (HC.out W hW).2.2.1, (HC.out W hW).2.2.2.1⟩)) _ Ef
              refine hK1.out _ _ (fun _ => Sf) ?_
              have Bz := Bz.below hbf
              have hlt := Bz.lt
              clear hK1 K1
              refine AnyF.one (i := 5) rfl (by kernel_rfl) (fun K1 hK1 => ?_)
              go_simp
              refine ⟨trivial, ?_⟩
              refine (callsIn_wide.2 (WmC.out _ Ef)).mono ?_
              rintro e u ⟨ab, kb, rfl, Ob, hbd⟩
              have Ed := Ef.trans (hbd.mono Ef.size)
              have Sd := (fun W (hW : Below V.heap.size V W) => (show W.cell? ⟨PL, 0, none⟩ = some (.int .i64 b1) ∧ W.cell? ⟨PL, 1, none⟩ = some (.slice a1 l1.length c1) ∧ W.cell? ⟨PM, 0, none⟩ = some (.int .i64 bm) ∧ W.cell? ⟨PM, 1, none⟩ = some (.slice am lm.length cm) from ⟨(HC.out W hW).1, (HC.out W hW).2.1, (HC.out W hW).2.2.1, (HC.out W hW).2.2.2.1⟩)) _ Ed
              refine hK1.out _ _ (fun _ => Sd) ?_
              clear hK1 K1
              have Bz := Bz.below hbd
              refine AnyF.takeD (i := 6) (d := 85) (.tuple #[.agg #[.int .i64 b1, .slice ab l1.length kb], .bool true]) rfl rfl rfl (by kernel_rfl) (by kernel_rfl) (by kernel_rfl) (by kernel_rfl) (by kernel_rfl) (fun _ _ _ h => h) Sd (Or.inl ⟨by rfl, fun w' h => (by dsimp only at h; go_simp)⟩) (fun _ => by rfl) ?_
              simp only [Act.put, List.setIfInBounds_toArray, List.set_cons_zero, List.set_cons_succ]
              refine AnyF.takeD (i := 7) (d := 92) (.agg #[.int .i64 b1, .slice ab l1.length kb]) rfl rfl rfl (by kernel_rfl) (by kernel_rfl) (by kernel_rfl) (by kernel_rfl) (by kernel_rfl) (fun _ _ _ h => h) Sd (Or.inl ⟨by rfl, fun w' h => (by dsimp only at h; go_simp)⟩) (fun _ => by rfl) ?_
              simp only [Act.put, List.setIfInBounds_toArray, List.set_cons_zero, List.set_cons_succ]
              refine AnyF.takeD (i := 8) (d := 93) (.bool true) rfl rfl rfl (by kernel_rfl) (by kernel_rfl) (by kernel_rfl) (by kernel_rfl) (by kernel_rfl) (fun _ _ _ h => h) Sd (Or.inl ⟨by rfl, fun w' h => (by dsimp only at h; go_simp)⟩) (fun _ => by rfl) ?_
              simp only [Act.put, List.setIfInBounds_toArray, List.set_cons_zero, List.set_cons_succ]
              have Eu := Ed
              have Cz : CatsAt ((u.setCell ⟨Pz, 0, none⟩ (.int .i64 b1)).setCell ⟨Pz, 1, none⟩ (.slice ab l1.length kb)) ab l1.length (fstAt l1) (sndAt l1) := OwnCats.cats (OwnList.set (OwnList.set Ob (P := Pz) (by omega) 0 _) (P := Pz) (by omega) 1 _)
              obtain ⟨x0, x1⟩ := Bz.two
              have xf0 := Bz.frozen2 0
              have xf1 := Bz.frozen2 1
              refine AnyF.one (i := 10) rfl (by kernel_rfl) (fun K1 hK1 => ?_)
              go_simp
              have Ez := (Eu.setCell (p := ⟨Pz, 0, none⟩) hPz (.int .i64 b1)).setCell (p := ⟨Pz, 1, none⟩) hPz (.slice ab l1.length kb)
              have Sz := (fun W (hW : Below V.heap.size V W) => (show W.cell? ⟨PL, 0, none⟩ = some (.int .i64 b1) ∧ W.cell? ⟨PL, 1, none⟩ = some (.slice a1 l1.length c1) ∧ W.cell? ⟨PM, 0, none⟩ = some (.int .i64 bm) ∧ W.cell? ⟨PM, 1, none⟩ = some (.slice am lm.length cm) from ⟨(HC.out W hW).1, (HC.out W hW).2.1, (HC.out W hW).2.2.1, (HC.out W hW).2.2.2.1⟩)) _ Ez
              refine hK1.out _ _ (fun _ => Sz) ?_
              clear hK1 K1
              refine AnyF.takeD (i := 11) (d := 13) (.bool true) rfl rfl rfl (by kernel_rfl) (by kernel_rfl) (by kernel_rfl) (by kernel_rfl) (by kernel_rfl) (fun _ _ _ h => h) Sz (Or.inl ⟨by rfl, fun w' h => (by dsimp only at h; go_simp)⟩) (fun _ => by rfl) ?_
              simp only [Act.put, List.setIfInBounds_toArray, List.set_cons_zero, List.set_cons_succ]
              refine AnyF.done (by kernel_rfl) ?_
              go_wp2_with fail
              go_meet
              case rel => exact ⟨Pz, ab, kb, rfl, rfl, (Bz.set0 _).set1 _, Cz, Ez⟩
          case rest =>
            obtain ⟨Pz, ab, kb, rfl, rfl, Bz, Cz, Ez⟩ := hcut
            obtain ⟨z0, z1, z2, z3, z4, z5⟩ := HC.out _ Ez
            go_wp2_with fail
            refine (LmC.out _ Ez).mono ?_
            rintro e v1 ⟨rfl, h1⟩
            have Ev := Ez.trans (h1.mono Ez.size)
            have Bv := Bz.below h1
            have Cv := Cz.below h1
            clear z0 z1 z2 z3 z4 z5 Bz Cz Ez h1
            obtain ⟨z0, z1, z2, z3, z4, z5⟩ := HC.out _ Ev
            obtain ⟨y0, y1⟩ := Bv.two
            have ll : (lv == lv) = true := by simp
            go_wp2_with fail
            refine (same_any b1 ab a1 l1.length kb c1 _ _ _ (by omega) Cv (D1h.out.below Ev)).mono ?_
            rintro e v2 ⟨rfl, h2⟩
            have E9 := Ev.trans (h2.mono Ev.size)
            clear z0 z1 z2 z3 z4 z5 y0 y1 Bv Cv Ev h2
            go_wp2
            go_ret
            exact ⟨rfl, EV.trans (E9.mono EV.size)⟩
end Go.Proofs.Ytjolkbcnglhebaa
