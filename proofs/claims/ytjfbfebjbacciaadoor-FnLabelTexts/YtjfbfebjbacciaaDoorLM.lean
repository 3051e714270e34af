/- A label's text is short; a text hurt now and then; what DrawReadLabel draws. -/
import Derived.Test.YtjfbfebjbacciaaDoorLL
import Derived.Test.YtjfbfebjbacciaaDoorRE
import Derived.Test.YtjfbfebjbacciaaDoorGR
namespace Go.Proofs.YtjfbfebjbacciaaDoor
open Go Go.RowKit Go.Deep Go.Maps

theorem hid {p : Prop} (h : p) : Hid p := h
theorem cat_short {c : Int × Int} (h : Fit c) : (catText c).length ≤ 22 := by
  obtain ⟨⟨h1, h2⟩, ⟨h3, h4⟩⟩ := h
  have a1 := decL_len_le 9 c.1.toNat (by omega)
  have a2 := decL_len_le 9 c.2.toNat (by omega)
  simp only [catText, List.length_cons, List.length_append]
  omega
theorem cats_short : ∀ (l : List (Int × Int)), (∀ x ∈ l, Fit x) → (l.map catText).flatten.length ≤ 22 * l.length
  | [], _ => by simp
  | c :: l, h => by
    have h1 := cat_short (h c (by simp))
    have h2 := cats_short l (fun x hx => h x (by simp [hx]))
    simp only [List.map_cons, List.flatten_cons, List.length_append, List.length_cons]
    omega
theorem txt_short {b : Int} {l : List (Int × Int)} (h : labOk b l.length (fstAt l) (sndAt l) = true) : (txt b l).length ≤ 300 := by
  obtain ⟨h1, h2, _⟩ := labOk_out h
  have hb := inB_iff.1 h1
  have a1 := decL_len_le 0 b.toNat (by omega)
  have a2 := cats_short l (labOk_fit h)
  simp only [txt, List.length_append]
  omega
theorem ltext_short (b : Int) (l : List (Int × Int)) : (ltext b l.length (fstAt l) (sndAt l)).length ≤ 300 := by
  unfold ltext
  split
  · rename_i h
    rw [catsTo_list]
    exact txt_short h
  · simp
theorem size_ofM (l : List UInt8) : (⟨l.toArray⟩ : ByteArray).size = l.length := by simp [ByteArray.size]

def five : Nat → ByteArray
  | 0 => ⟨#[48]⟩
  | 1 => ⟨#[49]⟩
  | 2 => ⟨#[32]⟩
  | 3 => ⟨#[44]⟩
  | _ => ⟨#[58]⟩
def fiveBlk : Obj := .cells #[.string ⟨#[48]⟩, .string ⟨#[49]⟩, .string ⟨#[32]⟩, .string ⟨#[44]⟩, .string ⟨#[58]⟩] 9
theorem five_at {W : World} {b x : Nat} (h : W.heap[b]? = some fiveBlk) (hx : x < 5) : W.cell? ⟨b, x, none⟩ = some (.string (five x)) := by
  simp only [World.cell?, h, fiveBlk]
  match x, hx with
  | 0, _ => rfl
  | 1, _ => rfl
  | 2, _ => rfl
  | 3, _ => rfl
  | 4, _ => rfl
theorem five_size (x : Nat) : (five x).size = 1 := by unfold five; split <;> rfl

set_option maxRecDepth 100000 in
set_option maxHeartbeats 2000000 in
theorem hurt_any (w0 : World) (rb : Nat) (a : Option Addr) (n cap : Nat) (s : ByteArray) (w : World) (hs : s.size ≤ 60000) (h : Rd w0 w rb a n cap) :
    Calls Tryd.prog 29 #[.pointer (some ⟨rb, 0, none⟩), .string s] w fun e w' => ∃ t : ByteArray, e = .returned (.string t) ∧ t.size ≤ s.size + 2 ∧ Below w0.heap.size w0 w' := by
  have HR := hid h
  clear h
  go_enter Tryd.func29, Tryd.ntmps29
  go_wp2_with fail
  refine (below_any _ rb a n cap 6 _ (by omega) HR.out).mono ?_
  rintro e w1 ⟨x, rfl, _, hx6, R1, _⟩
  have hx : x < 6 := hx6 (by omega)
  have HR1 := hid R1
  clear R1 hx6
  by_cases t0 : x = 0
  · subst t0
    go_wp2_with fail
    refine (rdBytes_any _ rb a n cap _ HR1.out).mono ?_
    rintro e w2 ⟨t, rfl, ht, R2, _⟩
    have E2 := R2.E
    clear R2
    have r1 : ¬ 9223372036854775807 < s.size + t.size := by omega
    go_wp2
    go_ret
    exact ⟨_, rfl, by rw [ByteArray.size_append]; omega, E2⟩
  by_cases t1 : x = 1
  · subst t1
    have w1' : IntKind.i64.wrap ((s.size : Int) + 1) = (s.size : Int) + 1 := by rw [IntKind.wrap_i64]; omega
    go_wp2_with fail
    refine (below_any _ rb a n cap (s.size + 1) _ (by omega) HR1.out).mono ?_
    rintro e w2 ⟨y, rfl, _, hy, R2, _⟩
    have hy' : y ≤ s.size := by have := hy (by omega); omega
    have hy2 : (y : Int) ≤ (s.size : Int) := by omega
    have E2 := R2.E
    clear R2
    go_wp2
    go_ret
    exact ⟨_, rfl, by rw [ByteArray.size_extract]; omega, E2⟩
  have t0' : ((x : Int) == 0) = false := by simpa using t0
  have t1' : ((x : Int) == 1) = false := by simp; omega
  by_cases t2 : x = 2
  · subst t2
    by_cases hs0 : 0 < s.size
    · have hs0' : (0 : Int) < (s.size : Int) := by omega
      go_wp2_with fail
      refine (below_any _ rb a n cap s.size _ (by omega) HR1.out).mono ?_
      rintro e w2 ⟨y, rfl, _, hy, R2, _⟩
      have hy' : y < s.size := hy (by omega)
      have y1 : (y : Int) ≤ (s.size : Int) := by omega
      have y2 : (y : Int) + 1 ≤ (s.size : Int) := by omega
      have y3 : (0 : Int) ≤ (y : Int) + 1 := by omega
      have y4 : IntKind.i64.wrap ((y : Int) + 1) = (y : Int) + 1 := by rw [IntKind.wrap_i64]; omega
      obtain ⟨A1, hA1, hz1⟩ : ∃ A, s.extract 0 y = A ∧ A.size ≤ s.size := ⟨_, rfl, by rw [ByteArray.size_extract]; omega⟩
      obtain ⟨A2, hA2, hz2⟩ : ∃ A, s.extract (y + 1) s.size = A ∧ A.size + y + 1 = s.size := ⟨_, rfl, by rw [ByteArray.size_extract]; omega⟩
      have hz3 : A1.size = y := by rw [← hA1, ByteArray.size_extract]; omega
      have HZ3 := hid hz3
      have HZ2 := hid hz2
      have RA : Hid (∀ W, Below w2.heap.size w2 W → Rd w0 W rb a n cap) := fun W h => R2.below h
      have B1 : Hid (Below w2.heap.size w2 w2.drew) := (Below.refl _ w2).drew
      have B2 : Hid (Below w2.heap.size w2 (w2.alloc fiveBlk).drew) := ((Below.refl _ w2).alloc (Nat.le_refl _) fiveBlk).drew
      have rlt := R2.lt
      have BK : Hid ((w2.alloc fiveBlk).drew.heap[w2.heap.size]? = some fiveBlk) := heap_alloc_new _ _
      clear R2 hy hz2 hz3
      go_wp2
      have n5 : ∀ (W : World) (z : Nat), z < 5 → (W.alloc (.cells #[.string ⟨#[48]⟩, .string ⟨#[49]⟩, .string ⟨#[32]⟩, .string ⟨#[44]⟩, .string ⟨#[58]⟩] 9)).cell? ⟨W.heap.size, z, none⟩ = some (.string (five z)) := fun W z hz => five_at (W := W.alloc fiveBlk) (heap_alloc_new _ _) hz
      have N5 := hid n5
      clear n5
      have HQ1 : Hid (w2.heap.size < (w2.alloc fiveBlk).drew.heap.size) := by show _ < (w2.alloc fiveBlk).heap.size; rw [World.size_alloc]; omega
      have HQ2 : Hid (some w2.heap.size ≠ some rb) := fun e => by have := Option.some.inj e; omega
      have HS1 : Hid (∀ z, ¬ 9223372036854775807 < A1.size + (five z).size) := fun z => by rw [five_size]; omega
      have HS2 : Hid (∀ z, ¬ 9223372036854775807 < A1.size + (five z).size + A2.size) := fun z => by rw [five_size]; have := HZ2.out; omega
      have RA1 := hid (RA.out _ B1.out)
      have RA2 := hid (RA.out _ B2.out)
      go_region_with (first
        | (go_at_call 35; refine (below_any w0 rb a n cap 5 _ (by decide) RA1.out).mono ?_; rintro e w3 ⟨z, rfl, _, hz, R3, g3⟩; have hz' : z < 5 := hz (by decide); have z5 : (z : Int) < 5 := Int.ofNat_lt.2 hz'; have n5 := N5.out w3 z hz'; have r1 := HS1.out z; have r2 := HS2.out z)
        | (go_at_call 35; refine (below_any w0 rb a n cap 5 _ (by decide) RA2.out).mono ?_; rintro e w3 ⟨z, rfl, _, hz, R3, g3⟩; have hz' : z < 5 := hz (by decide); have z5 : (z : Int) < 5 := Int.ofNat_lt.2 hz'; have n5 := five_at ((g3.block w2.heap.size HQ1.out HQ2.out).trans BK.out) hz'; have r1 := HS1.out z; have r2 := HS2.out z))
      all_goals (
        have E3 := R3.E
        clear R3
        go_wp2
        go_ret
        refine ⟨_, rfl, ?_, ?_⟩
        · rw [ByteArray.size_append, ByteArray.size_append, five_size]
          have := HZ2.out
          have := HZ3.out
          omega
        · first | exact E3 | exact E3.alloc E3.size _)
    · have hs0' : ¬ (0 : Int) < (s.size : Int) := by omega
      have E2 := HR1.out.E
      go_wp2
      go_ret
      exact ⟨_, rfl, by omega, E2⟩
  · have t2' : ((x : Int) == 2) = false := by simp; omega
    have E2 := HR1.out.E
    go_wp2
    go_ret
    exact ⟨_, rfl, by omega, E2⟩

set_option maxHeartbeats 1000000 in
theorem drawRead_any (a : Option Addr) (n cap : Nat) (w : World) (hn : n ≤ 1048576) (hb : BytesAt w a n) :
    Calls Tryd.prog 12 #[.slice a n cap] w fun e w' => ∃ t : ByteArray, e = .returned (.string t) ∧ t.size ≤ 1000 ∧ Below w.heap.size w w' := by
  have HB := hid hb
  clear hb
  go_enter Tryd.func12, Tryd.ntmps12
  go_wp2_with fail
  refine (l1Open_any a n cap _ hn HB.out).mono ?_
  rintro e w1 ⟨rb, rfl, R1⟩
  go_wp2_with fail
  refine (rdLabel_any _ rb a n cap _ R1).mono ?_
  rintro e w2 ⟨base, l, va, vc, rfl, l3, ho, R2, g2⟩
  clear R1
  have PT := hid (specLabelText_any base va l.length vc (fstAt l) (sndAt l) w2 (by unfold maxLen; omega) (OwnCats.cats ho))
  have hl := ltext_short base l
  generalize ltext base l.length (fstAt l) (sndAt l) = X at *
  clear ho
  go_wp2_with (go_at_call 9; refine PT.out.mono ?_; rintro e w3 ⟨rfl, h3⟩)
  have R3 := R2.below h3
  clear R2
  refine (hurt_any _ rb a n cap ⟨X.toArray⟩ _ (by rw [size_ofM]; omega) R3).mono ?_
  rintro e w4 ⟨u, rfl, hu, E4⟩
  have hx := size_ofM X
  clear R3
  go_wp2
  go_ret
  exact ⟨_, rfl, by omega, E4⟩
end Go.Proofs.YtjfbfebjbacciaaDoor
