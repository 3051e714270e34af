/- The reader's bytes, a text that is hurt now and then, what DrawTakeFrames and DrawFrameOf draw. -/
import Derived.Test.YtccgnmdiainafaaDoorSB
import Derived.Test.YtccgnmdiainafaaDoorURN
import Derived.Test.YtccgnmdiainafaaDoorFRD
namespace Go.Proofs.YtccgnmdiainafaaDoor
open Go Go.RowKit Go.Deep Go.Maps
open Go.WideShapes (add_plain)

set_option maxRecDepth 100000 in
set_option maxHeartbeats 2000000 in
theorem rdBytes5_any (w0 : World) (rb : Nat) (a : Option Addr) (n cap : Nat) (w : World) (h : Rd w0 w rb a n cap) :
    Calls Tryd.prog 22 #[.pointer (some ⟨rb, 0, none⟩), .int .i64 5] w fun e w' => ∃ s : ByteArray, e = .returned (.string s) ∧ s.size ≤ 5 ∧ Rd w0 w' rb a n cap ∧ w.grownBy w' (some rb) := by
  have hrb : rb < w.heap.size := h.lt
  have K0 := (Below.refl _ w).alloc (Nat.le_refl _) (.cells #[] 5)
  have R0 := h.below K0
  have O0 : OwnB (w.alloc (.cells #[] 5)) w.heap.size (.slice (some ⟨w.heap.size, 0, none⟩) 0 0) [] := World.ownsRow_made w #[] 0 (Nat.le_refl _) (Nat.zero_le _) rfl
  have g0 := World.grownBy_alloc w (.cells #[] 5) (some rb)
  go_enter Tryd.func22, Tryd.ntmps22
  go_wp2_with fail
  refine (below_any w0 rb a n cap 6 _ (by omega) R0).mono ?_
  rintro e w1 ⟨x, rfl, _, hx3, R1, hg1⟩
  have O1 : OwnB w1 w.heap.size (.slice (some ⟨w.heap.size, 0, none⟩) 0 0) [] := World.ownsRow.kept O0 hg1 (Or.inr (fun e => by have := (World.ownsRow.lt O0 _ e).1; omega))
  have G1 : w.grownBy w1 (some rb) := grown_pair g0 hg1
  have hx : x < 6 := hx3 (by omega)
  clear K0 R0 O0 g0 hg1 h
  go_wp2_with fail
  go_loopw [5, 6] (fun v i wr => ∃ (j : Nat) (l : List UInt8) (g c : Nat), l.length + j ≤ 5 ∧ i = .int .i64 j ∧ v = .slice (some ⟨g, 0, none⟩) l.length c ∧ OwnB wr w.heap.size (.slice (some ⟨g, 0, none⟩) l.length c) l ∧ Rd w0 wr rb a n cap ∧ w.grownBy wr (some rb)) (fun _ i _ => (intOf i).toNat)
  case atStart => exact ⟨x, [], w.heap.size, 0, by simp; omega, rfl, rfl, O1, R1, G1⟩
  case round =>
    obtain ⟨j, l, g, c, hl, rfl, rfl, O, R, G⟩ := hrel
    clear O1 R1 G1
    by_cases hj : 0 < j
    · have hj' : (0 : Int) < (j : Int) := by omega
      go_wp2_with fail
      refine (below_any w0 rb a n cap 256 _ (by omega) R).mono ?_
      rintro e w2 ⟨y, rfl, _, hy, R2, hg2⟩
      have hy' : y < 256 := hy (by omega)
      have hyi : (y : Int) < 256 := by omega
      have O2 : OwnB w2 w.heap.size (.slice (some ⟨g, 0, none⟩) l.length c) l := World.ownsRow.kept O hg2 (Or.inr (fun e => by have := (World.ownsRow.lt O _ e).1; omega))
      have G2 : w.grownBy w2 (some rb) := grown_pair G hg2
      have sz : w.heap.size ≤ w2.heap.size := G2.size
      have eb : ((UInt8.ofNat y).toNat : Int) = (y : Int) := by rw [UInt8.toNat_ofNat_of_lt' (by simp [UInt8.size]; omega)]
      have HL : Hid (LiesC (w2.alloc (.cells #[.int .u8 y] 5)) (some ⟨w2.heap.size, 0, none⟩) 1 [.int .u8 (UInt8.ofNat y).toNat]) := by
        show LiesC _ _ _ _
        rw [eb]
        exact one_u8 _
      have HO : Hid (OwnB (w2.alloc (.cells #[.int .u8 y] 5)) w.heap.size (.slice (some ⟨g, 0, none⟩) l.length c) l) := World.ownsRow.alloc O2 _
      have lm : l.length ≤ 1000 := by omega
      clear O R G hg2 eb
      go_wp2_with (at_builtin; refine wpList_append_byte _ rfl _ _ rfl w.heap.size _ l rfl HO.out _ 1 (UInt8.ofNat y) rfl HL.out lm (Nat.le_trans sz (by simp)) ?_; intro g' c' w3 O3 hg3)
      have hgB : w.heap.size ≤ g := (World.ownsRow.lt HO.out g rfl).1
      have hle := R2.le
      have R3 : Rd w0 w3 rb a n cap := (R2.below ((Below.refl _ w2).alloc (Nat.le_refl _) (.cells #[.int .u8 y] 5))).other hg3 (by dsimp only; omega) (by dsimp only; omega)
      have G3 : w.grownBy w3 (some rb) := grown_trans (grown_trans G2 (World.grownBy_alloc w2 _ none) (fun j e => by cases e)) hg3 (fun j e => by cases e; exact hgB)
      go_roundw
      case rel =>
        obtain ⟨q, rfl⟩ : ∃ q, j = q + 1 := ⟨j - 1, by omega⟩
        refine ⟨q, l ++ [UInt8.ofNat y], g', c', by rw [List.length_append]; simp; omega, by go_num, ?_, O3, R3, G3⟩
        first | rfl | simp
      case measure => simp [intOf]; omega
    · obtain rfl : j = 0 := by omega
      have k1 := O.text rfl
      go_wp2
      go_ret
      exact ⟨_, rfl, by rw [size_ofR]; omega, R, G⟩


set_option maxRecDepth 100000 in
set_option maxHeartbeats 2000000 in
theorem rdBytes2_any (w0 : World) (rb : Nat) (a : Option Addr) (n cap : Nat) (w : World) (h : Rd w0 w rb a n cap) :
    Calls Tryd.prog 22 #[.pointer (some ⟨rb, 0, none⟩), .int .i64 2] w fun e w' => ∃ s : ByteArray, e = .returned (.string s) ∧ s.size ≤ 2 ∧ Rd w0 w' rb a n cap ∧ w.grownBy w' (some rb) := by
  have hrb : rb < w.heap.size := h.lt
  have K0 := (Below.refl _ w).alloc (Nat.le_refl _) (.cells #[] 5)
  have R0 := h.below K0
  have O0 : OwnB (w.alloc (.cells #[] 5)) w.heap.size (.slice (some ⟨w.heap.size, 0, none⟩) 0 0) [] := World.ownsRow_made w #[] 0 (Nat.le_refl _) (Nat.zero_le _) rfl
  have g0 := World.grownBy_alloc w (.cells #[] 5) (some rb)
  go_enter Tryd.func22, Tryd.ntmps22
  go_wp2_with fail
  refine (below_any w0 rb a n cap 3 _ (by omega) R0).mono ?_
  rintro e w1 ⟨x, rfl, _, hx3, R1, hg1⟩
  have O1 : OwnB w1 w.heap.size (.slice (some ⟨w.heap.size, 0, none⟩) 0 0) [] := World.ownsRow.kept O0 hg1 (Or.inr (fun e => by have := (World.ownsRow.lt O0 _ e).1; omega))
  have G1 : w.grownBy w1 (some rb) := grown_pair g0 hg1
  have hx : x < 3 := hx3 (by omega)
  clear K0 R0 O0 g0 hg1 h
  go_wp2_with fail
  go_loopw [5, 6] (fun v i wr => ∃ (j : Nat) (l : List UInt8) (g c : Nat), l.length + j ≤ 2 ∧ i = .int .i64 j ∧ v = .slice (some ⟨g, 0, none⟩) l.length c ∧ OwnB wr w.heap.size (.slice (some ⟨g, 0, none⟩) l.length c) l ∧ Rd w0 wr rb a n cap ∧ w.grownBy wr (some rb)) (fun _ i _ => (intOf i).toNat)
  case atStart => exact ⟨x, [], w.heap.size, 0, by simp; omega, rfl, rfl, O1, R1, G1⟩
  case round =>
    obtain ⟨j, l, g, c, hl, rfl, rfl, O, R, G⟩ := hrel
    clear O1 R1 G1
    by_cases hj : 0 < j
    · have hj' : (0 : Int) < (j : Int) := by omega
      go_wp2_with fail
      refine (below_any w0 rb a n cap 256 _ (by omega) R).mono ?_
      rintro e w2 ⟨y, rfl, _, hy, R2, hg2⟩
      have hy' : y < 256 := hy (by omega)
      have hyi : (y : Int) < 256 := by omega
      have O2 : OwnB w2 w.heap.size (.slice (some ⟨g, 0, none⟩) l.length c) l := World.ownsRow.kept O hg2 (Or.inr (fun e => by have := (World.ownsRow.lt O _ e).1; omega))
      have G2 : w.grownBy w2 (some rb) := grown_pair G hg2
      have sz : w.heap.size ≤ w2.heap.size := G2.size
      have eb : ((UInt8.ofNat y).toNat : Int) = (y : Int) := by rw [UInt8.toNat_ofNat_of_lt' (by simp [UInt8.size]; omega)]
      have HL : Hid (LiesC (w2.alloc (.cells #[.int .u8 y] 5)) (some ⟨w2.heap.size, 0, none⟩) 1 [.int .u8 (UInt8.ofNat y).toNat]) := by
        show LiesC _ _ _ _
        rw [eb]
        exact one_u8 _
      have HO : Hid (OwnB (w2.alloc (.cells #[.int .u8 y] 5)) w.heap.size (.slice (some ⟨g, 0, none⟩) l.length c) l) := World.ownsRow.alloc O2 _
      have lm : l.length ≤ 1000 := by omega
      clear O R G hg2 eb
      go_wp2_with (at_builtin; refine wpList_append_byte _ rfl _ _ rfl w.heap.size _ l rfl HO.out _ 1 (UInt8.ofNat y) rfl HL.out lm (Nat.le_trans sz (by simp)) ?_; intro g' c' w3 O3 hg3)
      have hgB : w.heap.size ≤ g := (World.ownsRow.lt HO.out g rfl).1
      have hle := R2.le
      have R3 : Rd w0 w3 rb a n cap := (R2.below ((Below.refl _ w2).alloc (Nat.le_refl _) (.cells #[.int .u8 y] 5))).other hg3 (by dsimp only; omega) (by dsimp only; omega)
      have G3 : w.grownBy w3 (some rb) := grown_trans (grown_trans G2 (World.grownBy_alloc w2 _ none) (fun j e => by cases e)) hg3 (fun j e => by cases e; exact hgB)
      go_roundw
      case rel =>
        obtain ⟨q, rfl⟩ : ∃ q, j = q + 1 := ⟨j - 1, by omega⟩
        refine ⟨q, l ++ [UInt8.ofNat y], g', c', by rw [List.length_append]; simp; omega, by go_num, ?_, O3, R3, G3⟩
        first | rfl | simp
      case measure => simp [intOf]; omega
    · obtain rfl : j = 0 := by omega
      have k1 := O.text rfl
      go_wp2
      go_ret
      exact ⟨_, rfl, by rw [size_ofR]; omega, R, G⟩

theorem frameB_sizeD {d : ByteArray} (h : d.size ≤ 1000000) : (frameB d).size = 8 + d.size := by
  rw [frameB, if_pos h, ByteArray.size_append, ByteArray.size_append, size_ofR, size_ofR, bigL_len]
  rfl
def five : Nat → ByteArray
  | 0 => ⟨#[48]⟩
  | 1 => ⟨#[49]⟩
  | 2 => ⟨#[32]⟩
  | 3 => ⟨#[44]⟩
  | _ => ⟨#[58]⟩
def fiveBlk : Obj := .cells #[.string ⟨#[48]⟩, .string ⟨#[49]⟩, .string ⟨#[32]⟩, .string ⟨#[44]⟩, .string ⟨#[58]⟩] 9
theorem five_at {W : World} {b x : Nat} (h : W.heap[b]? = some fiveBlk) (hx : x < 5) : W.cell? ⟨b, x, none⟩ = some (.string (five x)) := by
  simp only [World.cell?, h, fiveBlk]
  match x, hx with
  | 0, _ => rfl
  | 1, _ => rfl
  | 2, _ => rfl
  | 3, _ => rfl
  | 4, _ => rfl
theorem five_size (x : Nat) : (five x).size = 1 := by unfold five; split <;> rfl

set_option maxRecDepth 100000 in
set_option maxHeartbeats 2000000 in
theorem hurt_any (w0 : World) (rb : Nat) (a : Option Addr) (n cap : Nat) (s : ByteArray) (w : World) (hs : s.size ≤ 60000) (h : Rd w0 w rb a n cap) :
    Calls Tryd.prog 15 #[.pointer (some ⟨rb, 0, none⟩), .string s] w fun e w' => ∃ t : ByteArray, e = .returned (.string t) ∧ t.size ≤ s.size + 2 ∧ Below w0.heap.size w0 w' := by
  have HR := hid h
  clear h
  go_enter Tryd.func15, Tryd.ntmps15
  go_wp2_with fail
  refine (below_any _ rb a n cap 6 _ (by omega) HR.out).mono ?_
  rintro e w1 ⟨x, rfl, _, hx6, R1, _⟩
  have hx : x < 6 := hx6 (by omega)
  have HR1 := hid R1
  clear R1 hx6
  by_cases t0 : x = 0
  · subst t0
    go_wp2_with fail
    refine (rdBytes2_any _ rb a n cap _ HR1.out).mono ?_
    rintro e w2 ⟨t, rfl, ht, R2, _⟩
    have E2 := R2.E
    clear R2
    have r1 : ¬ 9223372036854775807 < s.size + t.size := by omega
    go_wp2
    go_ret
    exact ⟨_, rfl, by rw [ByteArray.size_append]; omega, E2⟩
  by_cases t1 : x = 1
  · subst t1
    have w1' : IntKind.i64.wrap ((s.size : Int) + 1) = (s.size : Int) + 1 := by rw [IntKind.wrap_i64]; omega
    go_wp2_with fail
    refine (below_any _ rb a n cap (s.size + 1) _ (by omega) HR1.out).mono ?_
    rintro e w2 ⟨y, rfl, _, hy, R2, _⟩
    have hy' : y ≤ s.size := by have := hy (by omega); omega
    have hy2 : (y : Int) ≤ (s.size : Int) := by omega
    have E2 := R2.E
    clear R2
    go_wp2
    go_ret
    exact ⟨_, rfl, by rw [ByteArray.size_extract]; omega, E2⟩
  have t0' : ((x : Int) == 0) = false := by simpa using t0
  have t1' : ((x : Int) == 1) = false := by simp; omega
  by_cases t2 : x = 2
  · subst t2
    by_cases hs0 : 0 < s.size
    · have hs0' : (0 : Int) < (s.size : Int) := by omega
      go_wp2_with fail
      refine (below_any _ rb a n cap s.size _ (by omega) HR1.out).mono ?_
      rintro e w2 ⟨y, rfl, _, hy, R2, _⟩
      have hy' : y < s.size := hy (by omega)
      have y1 : (y : Int) ≤ (s.size : Int) := by omega
      have y2 : (y : Int) + 1 ≤ (s.size : Int) := by omega
      have y3 : (0 : Int) ≤ (y : Int) + 1 := by omega
      have y4 : IntKind.i64.wrap ((y : Int) + 1) = (y : Int) + 1 := by rw [IntKind.wrap_i64]; omega
      obtain ⟨A1, hA1, hz1⟩ : ∃ A, s.extract 0 y = A ∧ A.size ≤ s.size := ⟨_, rfl, by rw [ByteArray.size_extract]; omega⟩
      obtain ⟨A2, hA2, hz2⟩ : ∃ A, s.extract (y + 1) s.size = A ∧ A.size + y + 1 = s.size := ⟨_, rfl, by rw [ByteArray.size_extract]; omega⟩
      have hz3 : A1.size = y := by rw [← hA1, ByteArray.size_extract]; omega
      have HZ3 := hid hz3
      have HZ2 := hid hz2
      have RA : Hid (∀ W, Below w2.heap.size w2 W → Rd w0 W rb a n cap) := fun W h => R2.below h
      have B1 : Hid (Below w2.heap.size w2 w2.drew) := (Below.refl _ w2).drew
      have B2 : Hid (Below w2.heap.size w2 (w2.alloc fiveBlk).drew) := ((Below.refl _ w2).alloc (Nat.le_refl _) fiveBlk).drew
      have rlt := R2.lt
      have BK : Hid ((w2.alloc fiveBlk).drew.heap[w2.heap.size]? = some fiveBlk) := heap_alloc_new _ _
      clear R2 hy hz2 hz3
      go_wp2
      have n5 : ∀ (W : World) (z : Nat), z < 5 → (W.alloc (.cells #[.string ⟨#[48]⟩, .string ⟨#[49]⟩, .string ⟨#[32]⟩, .string ⟨#[44]⟩, .string ⟨#[58]⟩] 9)).cell? ⟨W.heap.size, z, none⟩ = some (.string (five z)) := fun W z hz => five_at (W := W.alloc fiveBlk) (heap_alloc_new _ _) hz
      have N5 := hid n5
      clear n5
      have HQ1 : Hid (w2.heap.size < (w2.alloc fiveBlk).drew.heap.size) := by show _ < (w2.alloc fiveBlk).heap.size; rw [World.size_alloc]; omega
      have HQ2 : Hid (some w2.heap.size ≠ some rb) := fun e => by have := Option.some.inj e; omega
      have HS1 : Hid (∀ z, ¬ 9223372036854775807 < A1.size + (five z).size) := fun z => by rw [five_size]; omega
      have HS2 : Hid (∀ z, ¬ 9223372036854775807 < A1.size + (five z).size + A2.size) := fun z => by rw [five_size]; have := HZ2.out; omega
      have RA1 := hid (RA.out _ B1.out)
      have RA2 := hid (RA.out _ B2.out)
      go_region_with (first
        | (go_at_call 12; refine (below_any w0 rb a n cap 5 _ (by decide) RA1.out).mono ?_; rintro e w3 ⟨z, rfl, _, hz, R3, g3⟩; have hz' : z < 5 := hz (by decide); have z5 : (z : Int) < 5 := Int.ofNat_lt.2 hz'; have n5 := N5.out w3 z hz'; have r1 := HS1.out z; have r2 := HS2.out z)
        | (go_at_call 12; refine (below_any w0 rb a n cap 5 _ (by decide) RA2.out).mono ?_; rintro e w3 ⟨z, rfl, _, hz, R3, g3⟩; have hz' : z < 5 := hz (by decide); have z5 : (z : Int) < 5 := Int.ofNat_lt.2 hz'; have n5 := five_at ((g3.block w2.heap.size HQ1.out HQ2.out).trans BK.out) hz'; have r1 := HS1.out z; have r2 := HS2.out z))
      all_goals (
        have E3 := R3.E
        clear R3
        go_wp2
        go_ret
        refine ⟨_, rfl, ?_, ?_⟩
        · rw [ByteArray.size_append, ByteArray.size_append, five_size]
          have := HZ2.out
          have := HZ3.out
          omega
        · first | exact E3 | exact E3.alloc E3.size _)
    · have hs0' : ¬ (0 : Int) < (s.size : Int) := by omega
      have E2 := HR1.out.E
      go_wp2
      go_ret
      exact ⟨_, rfl, by omega, E2⟩
  · have t2' : ((x : Int) == 2) = false := by simp; omega
    have E2 := HR1.out.E
    go_wp2
    go_ret
    exact ⟨_, rfl, by omega, E2⟩


set_option maxRecDepth 100000 in
set_option maxHeartbeats 1000000 in
theorem drawTake_any (a : Option Addr) (n cap : Nat) (w : World) (hn : n ≤ 1048576) (hb : BytesAt w a n) :
    Calls Tryd.prog 5 #[.slice a n cap] w fun e w' => ∃ s : ByteArray, e = .returned (.string s) ∧ s.size ≤ 60000 ∧ Below w.heap.size w w' := by
  have HB := hid hb
  clear hb
  go_enter Tryd.func5, Tryd.ntmps5
  go_wp2_with fail
  refine (l1Open_any a n cap _ hn HB.out).mono ?_
  rintro e w1 ⟨rb, rfl, R1⟩
  go_wp2_with fail
  refine (below_any _ rb a n cap 4 _ (by omega) R1).mono ?_
  rintro e w2 ⟨x, rfl, _, hx, R2, _⟩
  have hx' : x < 4 := hx (by omega)
  clear R1 hx
  go_wp2_with fail
  go_loopw [4, 5] (fun v i wr => ∃ (j : Nat) (s : ByteArray), j ≤ 3 ∧ s.size + 14 * j ≤ 42 ∧ i = .int .i64 j ∧ v = .string s ∧ Rd w wr rb a n cap) (fun _ i _ => (intOf i).toNat)
  case atStart => exact ⟨x, ⟨#[]⟩, by omega, by show 0 + _ ≤ _; omega, rfl, rfl, R2⟩
  case round =>
    obtain ⟨j, s, hj, hs, rfl, rfl, R⟩ := hrel
    clear R2
    by_cases h0 : 0 < j
    · have h0' : (0 : Int) < (j : Int) := by omega
      go_wp2_with fail
      refine (rdText_any _ rb a n cap _ R).mono ?_
      rintro e w3 ⟨t, rfl, ht, R3, _⟩
      go_wp2_with fail
      refine (specFrame_any t _ (by omega)).mono ?_
      rintro e w4 ⟨rfl, h4⟩
      have R4 := R3.below h4
      have hz := frameB_sizeD (d := t) (by omega)
      clear R R3 h4
      generalize frameB t = T at *
      have r1 : ¬ 9223372036854775807 < s.size + T.size := by omega
      go_wp2
      go_roundw
      case rel =>
        obtain ⟨q, rfl⟩ : ∃ q, j = q + 1 := ⟨j - 1, by omega⟩
        exact ⟨q, s ++ T, by omega, by rw [ByteArray.size_append]; omega, by go_num, rfl, R4⟩
      case measure => simp [intOf]; omega
    · obtain rfl : j = 0 := by omega
      go_wp2_with fail
      refine (hurt_any _ rb a n cap s _ (by omega) R).mono ?_
      rintro e w3 ⟨t, rfl, ht, E3⟩
      clear R
      go_wp2
      go_ret
      exact ⟨_, rfl, by omega, E3⟩

set_option maxRecDepth 100000 in
theorem drawFrame_any (a : Option Addr) (n cap : Nat) (w : World) (hn : n ≤ 1048576) (hb : BytesAt w a n) :
    Calls Tryd.prog 10 #[.slice a n cap] w fun e w' => ∃ s : ByteArray, e = .returned (.string s) ∧ s.size ≤ 11 ∧ Below w.heap.size w w' := by
  have HB := hid hb
  clear hb
  go_enter Tryd.func10, Tryd.ntmps10
  go_wp2_with fail
  refine (l1Open_any a n cap _ hn HB.out).mono ?_
  rintro e w1 ⟨rb, rfl, R1⟩
  go_wp2_with fail
  refine (rdText_any _ rb a n cap _ R1).mono ?_
  rintro e w2 ⟨t1, rfl, ht1, R2, _⟩
  clear R1
  go_wp2_with fail
  refine (rdBytes5_any _ rb a n cap _ R2).mono ?_
  rintro e w3 ⟨t2, rfl, ht2, R3, _⟩
  have E3 := R3.E
  clear R2 R3
  have r1 : ¬ 9223372036854775807 < t1.size + t2.size := by omega
  go_wp2
  go_ret
  exact ⟨_, rfl, by rw [ByteArray.size_append]; omega, E3⟩
end Go.Proofs.YtccgnmdiainafaaDoor
