/- What DrawChecksum draws: some text of a few bytes. -/
import Derived.Test.YtccgnmdiainafaaDoorRDR
import Derived.Test.YtccgnmdiainafaaDoorNGR
namespace Go.Proofs.YtccgnmdiainafaaDoor
open Go Go.RowKit Go.Deep Go.Maps
open Go.WideShapes (add_plain)

set_option maxRecDepth 100000 in
set_option maxHeartbeats 2000000 in
theorem rdBytes_any (w0 : World) (rb : Nat) (a : Option Addr) (n cap : Nat) (w : World) (h : Rd w0 w rb a n cap) :
    Calls Tryd.prog 22 #[.pointer (some ⟨rb, 0, none⟩), .int .i64 8] w fun e w' => ∃ s : ByteArray, e = .returned (.string s) ∧ s.size ≤ 8 ∧ Rd w0 w' rb a n cap ∧ w.grownBy w' (some rb) := by
  have hrb : rb < w.heap.size := h.lt
  have K0 := (Below.refl _ w).alloc (Nat.le_refl _) (.cells #[] 5)
  have R0 := h.below K0
  have O0 : OwnB (w.alloc (.cells #[] 5)) w.heap.size (.slice (some ⟨w.heap.size, 0, none⟩) 0 0) [] := World.ownsRow_made w #[] 0 (Nat.le_refl _) (Nat.zero_le _) rfl
  have g0 := World.grownBy_alloc w (.cells #[] 5) (some rb)
  go_enter Tryd.func22, Tryd.ntmps22
  go_wp2_with fail
  refine (below_any w0 rb a n cap 9 _ (by omega) R0).mono ?_
  rintro e w1 ⟨x, rfl, _, hx3, R1, hg1⟩
  have O1 : OwnB w1 w.heap.size (.slice (some ⟨w.heap.size, 0, none⟩) 0 0) [] := World.ownsRow.kept O0 hg1 (Or.inr (fun e => by have := (World.ownsRow.lt O0 _ e).1; omega))
  have G1 : w.grownBy w1 (some rb) := grown_pair g0 hg1
  have hx : x < 9 := hx3 (by omega)
  clear K0 R0 O0 g0 hg1 h
  go_wp2_with fail
  go_loopw [5, 6] (fun v i wr => ∃ (j : Nat) (l : List UInt8) (g c : Nat), l.length + j ≤ 8 ∧ i = .int .i64 j ∧ v = .slice (some ⟨g, 0, none⟩) l.length c ∧ OwnB wr w.heap.size (.slice (some ⟨g, 0, none⟩) l.length c) l ∧ Rd w0 wr rb a n cap ∧ w.grownBy wr (some rb)) (fun _ i _ => (intOf i).toNat)
  case atStart => exact ⟨x, [], w.heap.size, 0, by simp; omega, rfl, rfl, O1, R1, G1⟩
  case round =>
    obtain ⟨j, l, g, c, hl, rfl, rfl, O, R, G⟩ := hrel
    clear O1 R1 G1
    by_cases hj : 0 < j
    · have hj' : (0 : Int) < (j : Int) := by omega
      go_wp2_with fail
      refine (below_any w0 rb a n cap 256 _ (by omega) R).mono ?_
      rintro e w2 ⟨y, rfl, _, hy, R2, hg2⟩
      have hy' : y < 256 := hy (by omega)
      have hyi : (y : Int) < 256 := by omega
      have O2 : OwnB w2 w.heap.size (.slice (some ⟨g, 0, none⟩) l.length c) l := World.ownsRow.kept O hg2 (Or.inr (fun e => by have := (World.ownsRow.lt O _ e).1; omega))
      have G2 : w.grownBy w2 (some rb) := grown_pair G hg2
      have sz : w.heap.size ≤ w2.heap.size := G2.size
      have eb : ((UInt8.ofNat y).toNat : Int) = (y : Int) := by rw [UInt8.toNat_ofNat_of_lt' (by simp [UInt8.size]; omega)]
      have HL : Hid (LiesC (w2.alloc (.cells #[.int .u8 y] 5)) (some ⟨w2.heap.size, 0, none⟩) 1 [.int .u8 (UInt8.ofNat y).toNat]) := by
        show LiesC _ _ _ _
        rw [eb]
        exact one_u8 _
      have HO : Hid (OwnB (w2.alloc (.cells #[.int .u8 y] 5)) w.heap.size (.slice (some ⟨g, 0, none⟩) l.length c) l) := World.ownsRow.alloc O2 _
      have lm : l.length ≤ 1000 := by omega
      clear O R G hg2 eb
      go_wp2_with (at_builtin; refine wpList_append_byte _ rfl _ _ rfl w.heap.size _ l rfl HO.out _ 1 (UInt8.ofNat y) rfl HL.out lm (Nat.le_trans sz (by simp)) ?_; intro g' c' w3 O3 hg3)
      have hgB : w.heap.size ≤ g := (World.ownsRow.lt HO.out g rfl).1
      have hle := R2.le
      have R3 : Rd w0 w3 rb a n cap := (R2.below ((Below.refl _ w2).alloc (Nat.le_refl _) (.cells #[.int .u8 y] 5))).other hg3 (by dsimp only; omega) (by dsimp only; omega)
      have G3 : w.grownBy w3 (some rb) := grown_trans (grown_trans G2 (World.grownBy_alloc w2 _ none) (fun j e => by cases e)) hg3 (fun j e => by cases e; exact hgB)
      go_roundw
      case rel =>
        obtain ⟨q, rfl⟩ : ∃ q, j = q + 1 := ⟨j - 1, by omega⟩
        refine ⟨q, l ++ [UInt8.ofNat y], g', c', by rw [List.length_append]; simp; omega, by go_num, ?_, O3, R3, G3⟩
        first | rfl | simp
      case measure => simp [intOf]; omega
    · obtain rfl : j = 0 := by omega
      have k1 := O.text rfl
      go_wp2
      go_ret
      exact ⟨_, rfl, by rw [size_ofR]; omega, R, G⟩

theorem l1Open_any (a : Option Addr) (n cap : Nat) (w : World) (hn : n ≤ 1048576) (hb : BytesAt w a n) :
    Calls Tryd.prog 11 #[.slice a n cap] w fun e w' => ∃ rb, e = .returned (.pointer (some ⟨rb, 0, none⟩)) ∧ Rd w w' rb a n cap := by
  have R : Rd w (w.alloc (.cells #[.slice a n cap, .int .i64 0] 40)) w.heap.size a n cap :=
    ⟨(Below.refl _ w).alloc (Nat.le_refl _) _, Nat.le_refl _, hb, hn, 0, Nat.zero_le _, Blk.new w _⟩
  have HR : Hid (Rd w (w.alloc (.cells #[.slice a n cap, .int .i64 0] 40)) w.heap.size a n cap) := R
  clear R hb
  go_enter Tryd.func11, Tryd.ntmps11
  go_wp2
  go_ret
  exact ⟨_, rfl, HR.out⟩

theorem big_any (a : Option Addr) (n cap : Nat) (w : World) : Calls Tryd.prog 4 #[.slice a n cap] w fun e w' => e = .returned (.bool (decide (1048576 < n))) ∧ w' = w := by
  go_enter Tryd.func4, Tryd.ntmps4
  go_wp2
  go_ret
  refine ⟨ret_bool ?_, rfl⟩
  congr 1
  apply propext
  omega
end Go.Proofs.YtccgnmdiainafaaDoor
