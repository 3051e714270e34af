/- The reader's bytes, keys, nonces. -/
import Derived.Test.YtbopcgokmgifhaaDoorSB
import Derived.Test.YtbopcgokmgifhaaDoorURN
namespace Go.Proofs.YtbopcgokmgifhaaDoor
open Go Go.RowKit Go.Deep Go.Maps
open Go.WideShapes (add_plain)

set_option maxRecDepth 100000 in
set_option maxHeartbeats 2000000 in
theorem rdBytes9_any (w0 : World) (rb : Nat) (a : Option Addr) (n cap : Nat) (w : World) (h : Rd w0 w rb a n cap) :
    Calls Tryd.prog 17 #[.pointer (some ⟨rb, 0, none⟩), .int .i64 9] w fun e w' => ∃ s : ByteArray, e = .returned (.string s) ∧ s.size ≤ 9 ∧ Rd w0 w' rb a n cap ∧ w.grownBy w' (some rb) := by
  have hrb : rb < w.heap.size := h.lt
  have K0 := (Below.refl _ w).alloc (Nat.le_refl _) (.cells #[] 5)
  have R0 := h.below K0
  have O0 : OwnB (w.alloc (.cells #[] 5)) w.heap.size (.slice (some ⟨w.heap.size, 0, none⟩) 0 0) [] := World.ownsRow_made w #[] 0 (Nat.le_refl _) (Nat.zero_le _) rfl
  have g0 := World.grownBy_alloc w (.cells #[] 5) (some rb)
  go_enter Tryd.func17, Tryd.ntmps17
  go_wp2_with fail
  refine (below_any w0 rb a n cap 10 _ (by omega) R0).mono ?_
  rintro e w1 ⟨x, rfl, _, hx3, R1, hg1⟩
  have O1 : OwnB w1 w.heap.size (.slice (some ⟨w.heap.size, 0, none⟩) 0 0) [] := World.ownsRow.kept O0 hg1 (Or.inr (fun e => by have := (World.ownsRow.lt O0 _ e).1; omega))
  have G1 : w.grownBy w1 (some rb) := grown_pair g0 hg1
  have hx : x < 10 := hx3 (by omega)
  clear K0 R0 O0 g0 hg1 h
  go_wp2_with fail
  go_loopw [5, 6] (fun v i wr => ∃ (j : Nat) (l : List UInt8) (g c : Nat), l.length + j ≤ 9 ∧ i = .int .i64 j ∧ v = .slice (some ⟨g, 0, none⟩) l.length c ∧ OwnB wr w.heap.size (.slice (some ⟨g, 0, none⟩) l.length c) l ∧ Rd w0 wr rb a n cap ∧ w.grownBy wr (some rb)) (fun _ i _ => (intOf i).toNat)
  case atStart => exact ⟨x, [], w.heap.size, 0, by simp; omega, rfl, rfl, O1, R1, G1⟩
  case round =>
    obtain ⟨j, l, g, c, hl, rfl, rfl, O, R, G⟩ := hrel
    clear O1 R1 G1
    by_cases hj : 0 < j
    · have hj' : (0 : Int) < (j : Int) := by omega
      go_wp2_with fail
      refine (below_any w0 rb a n cap 256 _ (by omega) R).mono ?_
      rintro e w2 ⟨y, rfl, _, hy, R2, hg2⟩
      have hy' : y < 256 := hy (by omega)
      have hyi : (y : Int) < 256 := by omega
      have O2 : OwnB w2 w.heap.size (.slice (some ⟨g, 0, none⟩) l.length c) l := World.ownsRow.kept O hg2 (Or.inr (fun e => by have := (World.ownsRow.lt O _ e).1; omega))
      have G2 : w.grownBy w2 (some rb) := grown_pair G hg2
      have sz : w.heap.size ≤ w2.heap.size := G2.size
      have eb : ((UInt8.ofNat y).toNat : Int) = (y : Int) := by rw [UInt8.toNat_ofNat_of_lt' (by simp [UInt8.size]; omega)]
      have HL : Hid (LiesC (w2.alloc (.cells #[.int .u8 y] 5)) (some ⟨w2.heap.size, 0, none⟩) 1 [.int .u8 (UInt8.ofNat y).toNat]) := by
        show LiesC _ _ _ _
        rw [eb]
        exact one_u8 _
      have HO : Hid (OwnB (w2.alloc (.cells #[.int .u8 y] 5)) w.heap.size (.slice (some ⟨g, 0, none⟩) l.length c) l) := World.ownsRow.alloc O2 _
      have lm : l.length ≤ 1000 := by omega
      clear O R G hg2 eb
      go_wp2_with (at_builtin; refine wpList_append_byte _ rfl _ _ rfl w.heap.size _ l rfl HO.out _ 1 (UInt8.ofNat y) rfl HL.out lm (Nat.le_trans sz (by simp)) ?_; intro g' c' w3 O3 hg3)
      have hgB : w.heap.size ≤ g := (World.ownsRow.lt HO.out g rfl).1
      have hle := R2.le
      have R3 : Rd w0 w3 rb a n cap := (R2.below ((Below.refl _ w2).alloc (Nat.le_refl _) (.cells #[.int .u8 y] 5))).other hg3 (by dsimp only; omega) (by dsimp only; omega)
      have G3 : w.grownBy w3 (some rb) := grown_trans (grown_trans G2 (World.grownBy_alloc w2 _ none) (fun j e => by cases e)) hg3 (fun j e => by cases e; exact hgB)
      go_roundw
      case rel =>
        obtain ⟨q, rfl⟩ : ∃ q, j = q + 1 := ⟨j - 1, by omega⟩
        refine ⟨q, l ++ [UInt8.ofNat y], g', c', by rw [List.length_append]; simp; omega, by go_num, ?_, O3, R3, G3⟩
        first | rfl | simp
      case measure => simp [intOf]; omega
    · obtain rfl : j = 0 := by omega
      have k1 := O.text rfl
      go_wp2
      go_ret
      exact ⟨_, rfl, by rw [size_ofR]; omega, R, G⟩

set_option maxRecDepth 100000 in
set_option maxHeartbeats 2000000 in
theorem rdBytes2_any (w0 : World) (rb : Nat) (a : Option Addr) (n cap : Nat) (w : World) (h : Rd w0 w rb a n cap) :
    Calls Tryd.prog 17 #[.pointer (some ⟨rb, 0, none⟩), .int .i64 2] w fun e w' => ∃ s : ByteArray, e = .returned (.string s) ∧ s.size ≤ 2 ∧ Rd w0 w' rb a n cap ∧ w.grownBy w' (some rb) := by
  have hrb : rb < w.heap.size := h.lt
  have K0 := (Below.refl _ w).alloc (Nat.le_refl _) (.cells #[] 5)
  have R0 := h.below K0
  have O0 : OwnB (w.alloc (.cells #[] 5)) w.heap.size (.slice (some ⟨w.heap.size, 0, none⟩) 0 0) [] := World.ownsRow_made w #[] 0 (Nat.le_refl _) (Nat.zero_le _) rfl
  have g0 := World.grownBy_alloc w (.cells #[] 5) (some rb)
  go_enter Tryd.func17, Tryd.ntmps17
  go_wp2_with fail
  refine (below_any w0 rb a n cap 3 _ (by omega) R0).mono ?_
  rintro e w1 ⟨x, rfl, _, hx3, R1, hg1⟩
  have O1 : OwnB w1 w.heap.size (.slice (some ⟨w.heap.size, 0, none⟩) 0 0) [] := World.ownsRow.kept O0 hg1 (Or.inr (fun e => by have := (World.ownsRow.lt O0 _ e).1; omega))
  have G1 : w.grownBy w1 (some rb) := grown_pair g0 hg1
  have hx : x < 3 := hx3 (by omega)
  clear K0 R0 O0 g0 hg1 h
  go_wp2_with fail
  go_loopw [5, 6] (fun v i wr => ∃ (j : Nat) (l : List UInt8) (g c : Nat), l.length + j ≤ 2 ∧ i = .int .i64 j ∧ v = .slice (some ⟨g, 0, none⟩) l.length c ∧ OwnB wr w.heap.size (.slice (some ⟨g, 0, none⟩) l.length c) l ∧ Rd w0 wr rb a n cap ∧ w.grownBy wr (some rb)) (fun _ i _ => (intOf i).toNat)
  case atStart => exact ⟨x, [], w.heap.size, 0, by simp; omega, rfl, rfl, O1, R1, G1⟩
  case round =>
    obtain ⟨j, l, g, c, hl, rfl, rfl, O, R, G⟩ := hrel
    clear O1 R1 G1
    by_cases hj : 0 < j
    · have hj' : (0 : Int) < (j : Int) := by omega
      go_wp2_with fail
      refine (below_any w0 rb a n cap 256 _ (by omega) R).mono ?_
      rintro e w2 ⟨y, rfl, _, hy, R2, hg2⟩
      have hy' : y < 256 := hy (by omega)
      have hyi : (y : Int) < 256 := by omega
      have O2 : OwnB w2 w.heap.size (.slice (some ⟨g, 0, none⟩) l.length c) l := World.ownsRow.kept O hg2 (Or.inr (fun e => by have := (World.ownsRow.lt O _ e).1; omega))
      have G2 : w.grownBy w2 (some rb) := grown_pair G hg2
      have sz : w.heap.size ≤ w2.heap.size := G2.size
      have eb : ((UInt8.ofNat y).toNat : Int) = (y : Int) := by rw [UInt8.toNat_ofNat_of_lt' (by simp [UInt8.size]; omega)]
      have HL : Hid (LiesC (w2.alloc (.cells #[.int .u8 y] 5)) (some ⟨w2.heap.size, 0, none⟩) 1 [.int .u8 (UInt8.ofNat y).toNat]) := by
        show LiesC _ _ _ _
        rw [eb]
        exact one_u8 _
      have HO : Hid (OwnB (w2.alloc (.cells #[.int .u8 y] 5)) w.heap.size (.slice (some ⟨g, 0, none⟩) l.length c) l) := World.ownsRow.alloc O2 _
      have lm : l.length ≤ 1000 := by omega
      clear O R G hg2 eb
      go_wp2_with (at_builtin; refine wpList_append_byte _ rfl _ _ rfl w.heap.size _ l rfl HO.out _ 1 (UInt8.ofNat y) rfl HL.out lm (Nat.le_trans sz (by simp)) ?_; intro g' c' w3 O3 hg3)
      have hgB : w.heap.size ≤ g := (World.ownsRow.lt HO.out g rfl).1
      have hle := R2.le
      have R3 : Rd w0 w3 rb a n cap := (R2.below ((Below.refl _ w2).alloc (Nat.le_refl _) (.cells #[.int .u8 y] 5))).other hg3 (by dsimp only; omega) (by dsimp only; omega)
      have G3 : w.grownBy w3 (some rb) := grown_trans (grown_trans G2 (World.grownBy_alloc w2 _ none) (fun j e => by cases e)) hg3 (fun j e => by cases e; exact hgB)
      go_roundw
      case rel =>
        obtain ⟨q, rfl⟩ : ∃ q, j = q + 1 := ⟨j - 1, by omega⟩
        refine ⟨q, l ++ [UInt8.ofNat y], g', c', by rw [List.length_append]; simp; omega, by go_num, ?_, O3, R3, G3⟩
        first | rfl | simp
      case measure => simp [intOf]; omega
    · obtain rfl : j = 0 := by omega
      have k1 := O.text rfl
      go_wp2
      go_ret
      exact ⟨_, rfl, by rw [size_ofR]; omega, R, G⟩

def keyBlk : Obj := .cells #[.string ⟨#[48, 49, 50, 51, 52, 53, 54, 55, 56, 57, 97, 98, 99, 100, 101, 102]⟩, .string ⟨#[97, 97, 97, 97, 97, 97, 97, 97, 97, 97, 97, 97, 97, 97, 97, 97]⟩, .string ⟨#[27, 26, 25, 24, 19, 18, 17, 16, 11, 10, 9, 8, 3, 2, 1, 0]⟩, .string ⟨#[115, 104, 111, 114, 116]⟩] 9

set_option maxRecDepth 100000 in
set_option maxHeartbeats 2000000 in
theorem rdKey_any (w0 : World) (rb : Nat) (a : Option Addr) (n cap : Nat) (w : World) (h : Rd w0 w rb a n cap) :
    Calls Tryd.prog 14 #[.pointer (some ⟨rb, 0, none⟩)] w fun e w' => ∃ s : ByteArray, e = .returned (.string s) ∧ s.size ≤ 16 ∧ Rd w0 w' rb a n cap ∧ w.grownBy w' (some rb) := by
  have hrb : rb < w.heap.size := h.lt
  have K0 := (Below.refl _ w).alloc (Nat.le_refl _) keyBlk
  have A0 := Blk.new w keyBlk
  have R0 := h.below K0
  have g0 := World.grownBy_alloc w keyBlk (some rb)
  go_enter Tryd.func14, Tryd.ntmps14
  go_wp2_with fail
  refine (below_any w0 rb a n cap 4 _ (by omega) R0).mono ?_
  rintro e w1 ⟨x, rfl, _, hx4, R1, hg1⟩
  have hx : x < 4 := hx4 (by omega)
  have A1 := A0.grown hg1 (by simp; omega)
  have G1 : w.grownBy w1 (some rb) := grown_pair g0 hg1
  unfold Blk keyBlk at A1
  clear K0 R0 g0 hg1 h A0
  have c0 : w1.cell? ⟨w.heap.size, 0, none⟩ = some (.string ⟨#[48, 49, 50, 51, 52, 53, 54, 55, 56, 57, 97, 98, 99, 100, 101, 102]⟩) := by simp [World.cell?, A1]
  have c1 : w1.cell? ⟨w.heap.size, 1, none⟩ = some (.string ⟨#[97, 97, 97, 97, 97, 97, 97, 97, 97, 97, 97, 97, 97, 97, 97, 97]⟩) := by simp [World.cell?, A1]
  have c2 : w1.cell? ⟨w.heap.size, 2, none⟩ = some (.string ⟨#[27, 26, 25, 24, 19, 18, 17, 16, 11, 10, 9, 8, 3, 2, 1, 0]⟩) := by simp [World.cell?, A1]
  have c3 : w1.cell? ⟨w.heap.size, 3, none⟩ = some (.string ⟨#[115, 104, 111, 114, 116]⟩) := by simp [World.cell?, A1]
  clear A1 hx4
  obtain rfl | rfl | rfl | rfl : x = 0 ∨ x = 1 ∨ x = 2 ∨ x = 3 := by omega
  all_goals
    go_wp2
    go_ret
    exact ⟨_, rfl, by decide, R1, G1⟩


set_option maxHeartbeats 1000000 in
theorem rdNonce_any (w0 : World) (rb : Nat) (a : Option Addr) (n cap : Nat) (w : World) (h : Rd w0 w rb a n cap) :
    Calls Tryd.prog 15 #[.pointer (some ⟨rb, 0, none⟩)] w fun e w' => ∃ x : Int, e = .returned (.int .i64 x) ∧ Rd w0 w' rb a n cap ∧ w.grownBy w' (some rb) := by
  have HR := hid h
  clear h
  go_enter Tryd.func15, Tryd.ntmps15
  go_wp2_with fail
  refine (once_any _ rb a n cap 16 _ (by omega) HR.out).mono ?_
  rintro e w1 ⟨t, rfl, R1, g1⟩
  have HR1 := hid R1
  clear R1
  cases t with
  | true =>
    go_wp2_with fail
    refine (off_big _ rb a n cap 0 1099511627776 _ (by omega) (by omega) HR1.out).mono ?_
    rintro e w2 ⟨x, rfl, _, R2, g2⟩
    have HR2 := hid R2
    clear R2
    go_wp2
    go_ret
    exact ⟨_, rfl, HR2.out, grown_pair g1 g2⟩
  | false =>
    go_wp2_with fail
    refine (below_any _ rb a n cap 60 _ (by omega) HR1.out).mono ?_
    rintro e w2 ⟨x, rfl, _, _, R2, g2⟩
    have HR2 := hid R2
    clear R2
    go_wp2
    go_ret
    exact ⟨_, rfl, HR2.out, grown_pair g1 g2⟩
end Go.Proofs.YtbopcgokmgifhaaDoor
