/- FnSums: the walk. -/
import Derived.Test.YtlkaknabmpdakaaSB
import Derived.Deep.RegionHeld3
namespace Go.Proofs.Ytlkaknabmpdakaa
open Go Go.RowKit Go.Deep Go.Maps
open Go.WideShapes (add_plain)

theorem two_bytes (w : World) (x y : Int) (h0 : 0 ≤ x) (h1 : x < 256) (h2 : 0 ≤ y) (h3 : y < 256) :
    (convert 22 9 (Value.slice (some ⟨w.heap.size, 0, none⟩) 2 2)).run Try.prog (w.alloc (.cells #[.int .u8 x, .int .u8 y] 5)) = .ok (.string ⟨#[UInt8.ofNat x.toNat, UInt8.ofNat y.toNat]⟩) (w.alloc (.cells #[.int .u8 x, .int .u8 y] 5)) := by
  refine run_convert_bytes_back (P := Try.prog) (w.alloc (.cells #[.int .u8 x, .int .u8 y] 5)) 22 9 5 ⟨w.heap.size, 0, none⟩ 2 [UInt8.ofNat x.toNat, UInt8.ofNat y.toNat] Try.underlying22 Try.underlying5 Try.underlying9 fun j hj => ?_
  have e : ∀ z : Int, 0 ≤ z → z < 256 → (((UInt8.ofNat z.toNat).toNat : Nat) : Int) = z := fun z z0 z1 => by
    rw [UInt8.toNat_ofNat_of_lt' (by simp [UInt8.size]; omega)]
    omega
  have hj' : j < 2 := by simpa using hj
  obtain rfl | rfl : j = 0 ∨ j = 1 := by omega
  · simp only [List.getElem_cons_zero, e x h0 h1]
    simp [Addr.add]
  · simp only [List.getElem_cons_succ, List.getElem_cons_zero, e y h2 h3]
    simp [Addr.add]

theorem bytes_appS (a l : List UInt8) : ((⟨a.toArray⟩ : ByteArray) ++ (⟨l.toArray⟩ : ByteArray)) = ⟨(a ++ l).toArray⟩ := by
  apply ByteArray.ext
  apply Array.ext'
  simp
theorem ext_takeS (s : ByteArray) (k : Nat) : s.extract 0 k = ⟨(s.data.toList.take k).toArray⟩ := by
  apply ByteArray.ext
  apply Array.ext'
  simp
theorem ext_dropS (s : ByteArray) (k : Nat) : s.extract k s.size = ⟨(s.data.toList.drop k).toArray⟩ := by
  apply ByteArray.ext
  apply Array.ext'
  simp only [ByteArray.data_extract, Array.toList_extract, List.extract]
  rw [List.take_of_length_le]
  simp
theorem etaS (s : ByteArray) : s = ⟨s.data.toList.toArray⟩ := by cases s; simp
theorem lenS (s : ByteArray) : s.data.toList.length = s.size := Array.length_toList

theorem turn_sum (s : ByteArray) (k : Nat) (h : s.size % 2 = 0) (hk : k % 2 = 0) (hl : k ≤ s.size) : cks (s.extract k s.size ++ s.extract 0 k) = cks s := by
  rw [ext_takeS, ext_dropS, bytes_appS, sum_turn _ k (by rw [lenS]; exact h) hk (by rw [lenS]; exact hl), ← etaS]
theorem zero_sum (s : ByteArray) (h : ¬ s.size % 2 = 0) : cks (s ++ ⟨#[0]⟩) = cks s := by
  have e := sum_zero s.data.toList (by rw [lenS]; exact h)
  rw [← bytes_appS, ← etaS] at e
  exact e
theorem two_sum (s : ByteArray) (h : s.size % 2 = 0) : cks (s ++ ⟨#[UInt8.ofNat (((cks s : Nat) : Int) / 256).toNat, UInt8.ofNat (((cks s : Nat) : Int) % 256).toNat]⟩) = 0 := by
  have hc := cks_lt s
  have e := sum_two s.data.toList (by rw [lenS]; exact h) (UInt8.ofNat (((cks s : Nat) : Int) / 256).toNat) (UInt8.ofNat (((cks s : Nat) : Int) % 256).toNat) (by
    rw [← etaS, UInt8.toNat_ofNat_of_lt' (by simp [UInt8.size]; omega), UInt8.toNat_ofNat_of_lt' (by simp [UInt8.size]; omega)]
    omega)
  rw [← bytes_appS, ← etaS] at e
  exact e

set_option maxRecDepth 100000 in
set_option maxHeartbeats 2000000 in
theorem fnSums_walk (a : Option Addr) (n cap : Nat) (w : World) (hb : BytesAt w a n) :
    Calls Try.prog 4 #[.slice a n cap] w fun e w' => e = .returned (.bool true) ∧ Below w.heap.size w w' := by
  have HB := hid hb
  clear hb
  by_cases hn : n ≤ 1048576
  · have hbig := fun v => big_any a n cap v
    rw [show decide (1048576 < n) = false by simpa using hn] at hbig
    go_enter Try.func4, Try.ntmps4
    go_wp2_with (go_at_call 6; refine (hbig _).mono ?_; rintro e w' ⟨rfl, rfl⟩)
    refine (drawSum_any a n cap _ hn HB.out).mono ?_
    rintro e w1 ⟨s, rfl, hs, E1⟩
    have hc : ((cks s : Nat) : Int) < 65536 := by have := cks_lt s; omega
    have hc0 : 0 ≤ ((cks s : Nat) : Int) := by omega
    have P1 : Hid (∀ v : World, Calls Try.prog 13 #[.string s] v fun e w' => e = .returned (.int .i64 ((cks s : Nat) : Int)) ∧ w' = v) := fun v => implSum_any s v (by omega)
    have P2 : Hid (∀ v : World, Calls Try.prog 14 #[.string s] v fun e w' => e = .returned (.int .i64 ((cks s : Nat) : Int)) ∧ w' = v) := fun v => specSum_any s v (by omega)
    clear HB hbig
    by_cases ho : s.size % 2 = 0
    · have ho' : ¬ (s.size : Int).tmod 2 = 1 := by rw [Int.tmod_eq_emod_of_nonneg (by omega)]; omega
      have P3 : Hid (∀ v : World, Calls Try.prog 13 #[.string (s ++ ⟨#[UInt8.ofNat (((cks s : Nat) : Int) / 256).toNat, UInt8.ofNat (((cks s : Nat) : Int) % 256).toNat]⟩)] v fun e w' => e = .returned (.int .i64 0) ∧ w' = v) := fun v => by
        have e := implSum_any (s ++ ⟨#[UInt8.ofNat (((cks s : Nat) : Int) / 256).toNat, UInt8.ofNat (((cks s : Nat) : Int) % 256).toNat]⟩) v (by rw [ByteArray.size_append]; have : (⟨#[UInt8.ofNat (((cks s : Nat) : Int) / 256).toNat, UInt8.ofNat (((cks s : Nat) : Int) % 256).toNat]⟩ : ByteArray).size = 2 := rfl; omega)
        rw [two_sum s ho] at e
        exact e
      have P4 : Hid (∀ (k : Nat) (v : World), k % 2 = 0 → k ≤ s.size → Calls Try.prog 13 #[.string (s.extract k s.size ++ s.extract 0 k)] v fun e w' => e = .returned (.int .i64 ((cks s : Nat) : Int)) ∧ w' = v) := fun k v hk hl => by
        have e := implSum_any (s.extract k s.size ++ s.extract 0 k) v (by rw [ByteArray.size_append, ByteArray.size_extract, ByteArray.size_extract]; omega)
        rw [turn_sum s k ho hk hl] at e
        exact e
      generalize ((cks s : Nat) : Int) = c at *
      have tb := fun v : World => two_bytes v (c / 256) (c % 256) (by omega) (by omega) (by omega) (by omega)
      generalize UInt8.ofNat (c / 256).toNat = x at *
      generalize UInt8.ofNat (c % 256).toNat = y at *
      have E2 := E1.alloc E1.size (.cells #[.int .u8 (c / 256), .int .u8 (c % 256)] 5)
      go_wp2_with (first | (go_at_call 14; refine (P2.out _).mono ?_; rintro e w' ⟨rfl, rfl⟩) | (go_at_call 13; refine (P1.out _).mono ?_; rintro e w' ⟨rfl, rfl⟩))
      obtain ⟨k, hk, hk2, hkl⟩ : ∃ k : Nat, wrap64 ((n : Int) % ((s.size : Int) / 2 + 1) * 2) = (k : Int) ∧ k % 2 = 0 ∧ k ≤ s.size := by
        have e : (n : Int) % ((s.size : Int) / 2 + 1) = ((n % (s.size / 2 + 1) : Nat) : Int) := by simp
        have l := Nat.mod_lt n (show 0 < s.size / 2 + 1 by omega)
        refine ⟨n % (s.size / 2 + 1) * 2, ?_, by omega, by omega⟩
        rw [e]
        generalize n % (s.size / 2 + 1) = m at *
        unfold wrap64
        omega
      rw [hk]
      have P5 : Hid (∀ v : World, Calls Try.prog 13 #[.string (s.extract k s.size ++ s.extract 0 k)] v fun e w' => e = .returned (.int .i64 c) ∧ w' = v) := fun v => P4.out k v hk2 hkl
      have hk1 : (k : Int) ≤ (s.size : Int) := by omega
      clear hk hk2 P4 P1 P2 tb
      have r1 : ¬ 9223372036854775807 < s.size + 2 := by omega
      obtain ⟨U, hU⟩ : ∃ U, s.extract k s.size = U := ⟨_, rfl⟩
      obtain ⟨Z, hZ⟩ : ∃ Z, s.extract 0 k = Z := ⟨_, rfl⟩
      have r2 : ¬ 9223372036854775807 < U.size + Z.size := by
        rw [← hU, ← hZ, ByteArray.size_extract, ByteArray.size_extract]
        omega
      rw [hU, hZ] at P5
      go_region_held3 (fun _ => True) (trivial) (first | (go_at_call 13; have mk' := mk; refine (P5.out _).mono ?_; rintro e w' ⟨rfl, rfl⟩) | (go_at_call 13; refine (P3.out _).mono ?_; rintro e w' ⟨rfl, rfl⟩; have mk : True := trivial))
      all_goals
        go_wp2
        go_ret
        exact ⟨rfl, E2.drew⟩
    · have ho' : (s.size : Int).tmod 2 = 1 := by rw [Int.tmod_eq_emod_of_nonneg (by omega)]; omega
      have P3 : Hid (∀ v : World, Calls Try.prog 13 #[.string (s ++ ⟨#[0]⟩)] v fun e w' => e = .returned (.int .i64 ((cks s : Nat) : Int)) ∧ w' = v) := fun v => by
        have e := implSum_any (s ++ ⟨#[0]⟩) v (by rw [ByteArray.size_append]; have : (⟨#[0]⟩ : ByteArray).size = 1 := rfl; omega)
        rw [zero_sum s ho] at e
        exact e
      generalize ((cks s : Nat) : Int) = c at *
      go_wp2_with (first | (go_at_call 14; refine (P2.out _).mono ?_; rintro e w' ⟨rfl, rfl⟩; have mk : True := trivial) | (go_at_call 13; have mk' := mk; refine (P3.out _).mono ?_; rintro e w' ⟨rfl, rfl⟩) | (go_at_call 13; refine (P1.out _).mono ?_; rintro e w' ⟨rfl, rfl⟩))
      go_ret
      exact ⟨rfl, E1⟩
  · have hbig := fun v => big_any a n cap v
    rw [show decide (1048576 < n) = true by simpa using hn] at hbig
    go_enter Try.func4, Try.ntmps4
    go_wp2_with (go_at_call 6; refine (hbig _).mono ?_; rintro e w' ⟨rfl, rfl⟩)
    go_ret
    exact ⟨rfl, Below.refl _ _⟩
end Go.Proofs.Ytlkaknabmpdakaa
