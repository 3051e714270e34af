/- A text hurt now and then; what DrawSealed and DrawOpened draw. -/
import Derived.Test.YtbopcgokmgifhaaDoorDA
import Derived.Test.YtbopcgokmgifhaaDoorZE
namespace Go.Proofs.YtbopcgokmgifhaaDoor
open Go Go.RowKit Go.Deep Go.Maps

def five : Nat → ByteArray
  | 0 => ⟨#[48]⟩
  | 1 => ⟨#[49]⟩
  | 2 => ⟨#[32]⟩
  | 3 => ⟨#[44]⟩
  | _ => ⟨#[58]⟩
def fiveBlk : Obj := .cells #[.string ⟨#[48]⟩, .string ⟨#[49]⟩, .string ⟨#[32]⟩, .string ⟨#[44]⟩, .string ⟨#[58]⟩] 9
theorem five_at {W : World} {b x : Nat} (h : W.heap[b]? = some fiveBlk) (hx : x < 5) : W.cell? ⟨b, x, none⟩ = some (.string (five x)) := by
  simp only [World.cell?, h, fiveBlk]
  match x, hx with
  | 0, _ => rfl
  | 1, _ => rfl
  | 2, _ => rfl
  | 3, _ => rfl
  | 4, _ => rfl
theorem five_size (x : Nat) : (five x).size = 1 := by unfold five; split <;> rfl

set_option maxRecDepth 100000 in
set_option maxHeartbeats 2000000 in
theorem hurt_any (w0 : World) (rb : Nat) (a : Option Addr) (n cap : Nat) (s : ByteArray) (w : World) (hs : s.size ≤ 60000) (h : Rd w0 w rb a n cap) :
    Calls Tryd.prog 29 #[.pointer (some ⟨rb, 0, none⟩), .string s] w fun e w' => ∃ t : ByteArray, e = .returned (.string t) ∧ t.size ≤ s.size + 2 ∧ Below w0.heap.size w0 w' := by
  have HR := hid h
  clear h
  go_enter Tryd.func29, Tryd.ntmps29
  go_wp2_with fail
  refine (below_any _ rb a n cap 6 _ (by omega) HR.out).mono ?_
  rintro e w1 ⟨x, rfl, _, hx6, R1, _⟩
  have hx : x < 6 := hx6 (by omega)
  have HR1 := hid R1
  clear R1 hx6
  by_cases t0 : x = 0
  · subst t0
    go_wp2_with fail
    refine (rdBytes2_any _ rb a n cap _ HR1.out).mono ?_
    rintro e w2 ⟨t, rfl, ht, R2, _⟩
    have E2 := R2.E
    clear R2
    have r1 : ¬ 9223372036854775807 < s.size + t.size := by omega
    go_wp2
    go_ret
    exact ⟨_, rfl, by rw [ByteArray.size_append]; omega, E2⟩
  by_cases t1 : x = 1
  · subst t1
    have w1' : IntKind.i64.wrap ((s.size : Int) + 1) = (s.size : Int) + 1 := by rw [IntKind.wrap_i64]; omega
    go_wp2_with fail
    refine (below_any _ rb a n cap (s.size + 1) _ (by omega) HR1.out).mono ?_
    rintro e w2 ⟨y, rfl, _, hy, R2, _⟩
    have hy' : y ≤ s.size := by have := hy (by omega); omega
    have hy2 : (y : Int) ≤ (s.size : Int) := by omega
    have E2 := R2.E
    clear R2
    go_wp2
    go_ret
    exact ⟨_, rfl, by rw [ByteArray.size_extract]; omega, E2⟩
  have t0' : ((x : Int) == 0) = false := by simpa using t0
  have t1' : ((x : Int) == 1) = false := by simp; omega
  by_cases t2 : x = 2
  · subst t2
    by_cases hs0 : 0 < s.size
    · have hs0' : (0 : Int) < (s.size : Int) := by omega
      go_wp2_with fail
      refine (below_any _ rb a n cap s.size _ (by omega) HR1.out).mono ?_
      rintro e w2 ⟨y, rfl, _, hy, R2, _⟩
      have hy' : y < s.size := hy (by omega)
      have y1 : (y : Int) ≤ (s.size : Int) := by omega
      have y2 : (y : Int) + 1 ≤ (s.size : Int) := by omega
      have y3 : (0 : Int) ≤ (y : Int) + 1 := by omega
      have y4 : IntKind.i64.wrap ((y : Int) + 1) = (y : Int) + 1 := by rw [IntKind.wrap_i64]; omega
      obtain ⟨A1, hA1, hz1⟩ : ∃ A, s.extract 0 y = A ∧ A.size ≤ s.size := ⟨_, rfl, by rw [ByteArray.size_extract]; omega⟩
      obtain ⟨A2, hA2, hz2⟩ : ∃ A, s.extract (y + 1) s.size = A ∧ A.size + y + 1 = s.size := ⟨_, rfl, by rw [ByteArray.size_extract]; omega⟩
      have hz3 : A1.size = y := by rw [← hA1, ByteArray.size_extract]; omega
      have HZ3 := hid hz3
      have HZ2 := hid hz2
      have RA : Hid (∀ W, Below w2.heap.size w2 W → Rd w0 W rb a n cap) := fun W h => R2.below h
      have B1 : Hid (Below w2.heap.size w2 w2.drew) := (Below.refl _ w2).drew
      have B2 : Hid (Below w2.heap.size w2 (w2.alloc fiveBlk).drew) := ((Below.refl _ w2).alloc (Nat.le_refl _) fiveBlk).drew
      have rlt := R2.lt
      have BK : Hid ((w2.alloc fiveBlk).drew.heap[w2.heap.size]? = some fiveBlk) := heap_alloc_new _ _
      clear R2 hy hz2 hz3
      go_wp2
      have n5 : ∀ (W : World) (z : Nat), z < 5 → (W.alloc (.cells #[.string ⟨#[48]⟩, .string ⟨#[49]⟩, .string ⟨#[32]⟩, .string ⟨#[44]⟩, .string ⟨#[58]⟩] 9)).cell? ⟨W.heap.size, z, none⟩ = some (.string (five z)) := fun W z hz => five_at (W := W.alloc fiveBlk) (heap_alloc_new _ _) hz
      have N5 := hid n5
      clear n5
      have HQ1 : Hid (w2.heap.size < (w2.alloc fiveBlk).drew.heap.size) := by show _ < (w2.alloc fiveBlk).heap.size; rw [World.size_alloc]; omega
      have HQ2 : Hid (some w2.heap.size ≠ some rb) := fun e => by have := Option.some.inj e; omega
      have HS1 : Hid (∀ z, ¬ 9223372036854775807 < A1.size + (five z).size) := fun z => by rw [five_size]; omega
      have HS2 : Hid (∀ z, ¬ 9223372036854775807 < A1.size + (five z).size + A2.size) := fun z => by rw [five_size]; have := HZ2.out; omega
      have RA1 := hid (RA.out _ B1.out)
      have RA2 := hid (RA.out _ B2.out)
      go_region_with (first
        | (go_at_call 31; refine (below_any w0 rb a n cap 5 _ (by decide) RA1.out).mono ?_; rintro e w3 ⟨z, rfl, _, hz, R3, g3⟩; have hz' : z < 5 := hz (by decide); have z5 : (z : Int) < 5 := Int.ofNat_lt.2 hz'; have n5 := N5.out w3 z hz'; have r1 := HS1.out z; have r2 := HS2.out z)
        | (go_at_call 31; refine (below_any w0 rb a n cap 5 _ (by decide) RA2.out).mono ?_; rintro e w3 ⟨z, rfl, _, hz, R3, g3⟩; have hz' : z < 5 := hz (by decide); have z5 : (z : Int) < 5 := Int.ofNat_lt.2 hz'; have n5 := five_at ((g3.block w2.heap.size HQ1.out HQ2.out).trans BK.out) hz'; have r1 := HS1.out z; have r2 := HS2.out z))
      all_goals (
        have E3 := R3.E
        clear R3
        go_wp2
        go_ret
        refine ⟨_, rfl, ?_, ?_⟩
        · rw [ByteArray.size_append, ByteArray.size_append, five_size]
          have := HZ2.out
          have := HZ3.out
          omega
        · first | exact E3 | exact E3.alloc E3.size _)
    · have hs0' : ¬ (0 : Int) < (s.size : Int) := by omega
      have E2 := HR1.out.E
      go_wp2
      go_ret
      exact ⟨_, rfl, by omega, E2⟩
  · have t2' : ((x : Int) == 2) = false := by simp; omega
    have E2 := HR1.out.E
    go_wp2
    go_ret
    exact ⟨_, rfl, by omega, E2⟩

set_option maxHeartbeats 1000000 in
theorem drawSealed_any (a : Option Addr) (n cap : Nat) (w : World) (hn : n ≤ 1048576) (hb : BytesAt w a n) :
    Calls Tryd.prog 6 #[.slice a n cap] w fun e w' => ∃ (s : ByteArray) (b : Int) (t : ByteArray), e = .returned (.tuple #[.string s, .int .i64 b, .string t]) ∧ t.size ≤ 15 ∧ Below w.heap.size w w' := by
  have HB := hid hb
  clear hb
  go_enter Tryd.func6, Tryd.ntmps6
  go_wp2_with fail
  refine (l1Open_any a n cap _ hn HB.out).mono ?_
  rintro e w1 ⟨rb, rfl, R1⟩
  go_wp2_with fail
  refine (rdKey_any _ rb a n cap _ R1).mono ?_
  rintro e w2 ⟨s, rfl, h1, R2, _⟩
  clear R1
  go_wp2_with fail
  refine (rdNonce_any _ rb a n cap _ R2).mono ?_
  rintro e w3 ⟨b, rfl, R3, _⟩
  clear R2
  go_wp2_with fail
  refine (rdText_any _ rb a n cap _ R3).mono ?_
  rintro e w4 ⟨t1, rfl, ht1, R4, _⟩
  clear R3
  go_wp2_with fail
  refine (rdBytes9_any _ rb a n cap _ R4).mono ?_
  rintro e w5 ⟨t2, rfl, ht2, R5, _⟩
  have E5 := R5.E
  clear R4 R5
  have r1 : ¬ 9223372036854775807 < t1.size + t2.size := by omega
  go_wp2
  refine bodyPost_ret (v := .tuple #[.string s, .int .i64 b, .string (t1 ++ t2)]) (by simp [results, Tryd.results6]) rfl ⟨_, _, _, rfl, by rw [ByteArray.size_append]; omega, E5⟩

theorem sealAns_size (s : ByteArray) (b : Int) (t : ByteArray) : (sealAns s b t).1.size ≤ t.size + 10 := by
  unfold sealAns
  split
  · simp only [size_ofR, List.length_append, front_len]
    show _ + 4 ≤ _
    omega
  · exact Nat.zero_le _

set_option maxHeartbeats 1000000 in
theorem drawOpened_any (a : Option Addr) (n cap : Nat) (w : World) (hn : n ≤ 1048576) (hb : BytesAt w a n) :
    Calls Tryd.prog 11 #[.slice a n cap] w fun e w' => ∃ (s : ByteArray) (t : ByteArray), e = .returned (.tuple #[.string s, .string t]) ∧ t.size ≤ 1000 ∧ Below w.heap.size w w' := by
  have HB := hid hb
  clear hb
  go_enter Tryd.func11, Tryd.ntmps11
  go_wp2_with fail
  refine (l1Open_any a n cap _ hn HB.out).mono ?_
  rintro e w1 ⟨rb, rfl, R1⟩
  go_wp2_with fail
  refine (rdKey_any _ rb a n cap _ R1).mono ?_
  rintro e w2 ⟨s, rfl, h1, R2, _⟩
  clear R1
  go_wp2_with fail
  refine (rdNonce_any _ rb a n cap _ R2).mono ?_
  rintro e w3 ⟨b, rfl, R3, _⟩
  clear R2
  go_wp2_with fail
  refine (rdText_any _ rb a n cap _ R3).mono ?_
  rintro e w4 ⟨t1, rfl, ht1, R4, _⟩
  clear R3
  go_wp2_with fail
  refine (rdBytes9_any _ rb a n cap _ R4).mono ?_
  rintro e w5 ⟨t2, rfl, ht2, R5, _⟩
  clear R4
  have r1 : ¬ 9223372036854775807 < t1.size + t2.size := by omega
  have hz : (t1 ++ t2).size ≤ 15 := by rw [ByteArray.size_append]; omega
  obtain ⟨T, hT, hT15⟩ : ∃ T, t1 ++ t2 = T ∧ T.size ≤ 15 := ⟨_, rfl, hz⟩
  clear hz
  go_wp2_with fail
  refine (specSealed_any s b T _).mono ?_
  rintro e w6 ⟨rfl, h6⟩
  have hs6 := sealAns_size s b T
  have R6 := R5.below h6
  generalize (sealAns s b T).1 = X at *
  generalize (sealAns s b T).2 = o at *
  clear R5
  go_wp2_with fail
  refine (hurt_any _ rb a n cap X _ (by omega) R6).mono ?_
  rintro e w7 ⟨t, rfl, ht, h7⟩
  clear R6
  go_wp2
  go_ret2
  exact ⟨_, _, rfl, by omega, h7⟩
end Go.Proofs.YtbopcgokmgifhaaDoor
