/- Drawn kernels and numbers; what the law's helpers answer. -/
import Derived.Test.YthbmfbnnemgbpaaGreatDoorNF4
import Derived.Test.YthbmfbnnemgbpaaGreatDoorZ4
import Derived.Test.YthbmfbnnemgbpaaGreatDoorZ7
import Derived.Test.YthbmfbnnemgbpaaGreatDoorZ12
import Derived.Test.YthbmfbnnemgbpaaGreatDoorZ13
namespace Go.Proofs.YthbmfbnnemgbpaaGreatDoor
open Go Go.RowKit Go.Deep Go.Maps Go.BigFrame Go.Shelf
theorem big_any (a : Option Addr) (n cap : Nat) (w : World) : Calls Tryz.prog 4 #[.slice a n cap] w fun e w' => e = .returned (.bool (decide (1048576 < n))) ∧ w' = w := by
 go_enter Tryz.func4, Tryz.ntmps4
 go_wp2
 go_ret
 refine ⟨ret_bool ?_, rfl⟩
 congr 1
 apply propext
 omega
end Go.Proofs.YthbmfbnnemgbpaaGreatDoor
namespace Go.Proofs.YthbmfbnnemgbpaaGreatDoor
open Go Go.RowKit Go.Deep Go.Maps
open Go.WideShapes (add_plain)
theorem size_ofR (l : List UInt8) : (⟨l.toArray⟩ : ByteArray).size = l.length := by simp [ByteArray.size]
def bcells (l : List UInt8) : List Value := l.map fun b => Value.int .u8 b.toNat
def OwnB (w : World) (B : Nat) (v : Value) (l : List UInt8) : Prop := w.ownsRow B 5 1 v l.length (bcells l)
theorem one_u8 {w : World} (x : Int) : LiesC (w.alloc (.cells #[.int .u8 x] 5)) (some ⟨w.heap.size, 0, none⟩) 1 [.int .u8 x] := fun _ =>
 ⟨w.heap.size, 0, rfl, by simp, fun j u hu => by
   cases j with
   | zero => simp at hu; subst hu; simp
   | succ j => simp at hu⟩
theorem wpList_append_byte {ops : Array Oper} {rest : List Oper} {o : Oper} {a : Act} {Q : Exit → Act → World → Prop} (w : World) (hgd : o.guard = none) (s x : Operand)
 (ho : o.op = .call { callee := .builtin .append, args := #[s, x], argTypes := #[22, 22] })
 (B : Nat) (v : Value) (l : List UInt8) (hs : a.eval s = v) (hown : OwnB w B v l) (ad : Option Addr) (c : Nat) (b : UInt8) (hx : a.eval x = .slice ad 1 c) (hc : LiesC w ad 1 [.int .u8 b.toNat])
 (hm : l.length ≤ 1000) (hB : B ≤ w.heap.size)
 (h : ∀ g c' w', OwnB w' B (.slice (some ⟨g, 0, none⟩) (l ++ [b]).length c') (l ++ [b]) → w.grownBy w' v.ownBlock → wpList Tryz.prog ops Q rest (a.put o.dst (.slice (some ⟨g, 0, none⟩) (l ++ [b]).length c')) w') : wpList Tryz.prog ops Q (o :: rest) a w := by
 refine wpList_plain hgd fun _ hK => wp_append_gen Tryz.underlying22 Tryz.info5 rfl (by omega) w s x ho B v l.length _ hs hown ad 1 c [.int .u8 b.toNat] hx (by simp) hc (fun u hu => by simp at hu; subst hu; rfl) (by omega) (by omega) hB fun a' c' w' h2 h3 _ => hK _ _ ?_
 have e1 : bcells l ++ [Value.int .u8 b.toNat] = bcells (l ++ [b]) := by simp [bcells]
 have e2 : l.length + 1 = (l ++ [b]).length := by simp
 rw [e1] at h2
 obtain ⟨g, cap, hv, _, _⟩ := World.ownsRow.form h2 (by omega)
 simp only [Value.slice.injEq] at hv
 obtain ⟨rfl, _, _⟩ := hv
 rw [e2] at h2 ⊢
 exact h g c' w' h2 h3
theorem OwnB.text {w : World} {B g n c : Nat} {l : List UInt8} (h : OwnB w B (.slice (some ⟨g, 0, none⟩) n c) l) (hn : n = l.length) : (convert 22 9 (.slice (some ⟨g, 0, none⟩) n c)).run Tryz.prog w = .ok (.string ⟨l.toArray⟩) w := by
 subst hn
 refine run_convert_bytes_back (P := Tryz.prog) w 22 9 5 ⟨g, 0, none⟩ c l Tryz.underlying22 Tryz.underlying5 Tryz.underlying9 fun j hj => ?_
 exact World.ownsRow.cells h (g := g) rfl j _ (by simp [bcells, hj])
end Go.Proofs.YthbmfbnnemgbpaaGreatDoor
namespace Go.Proofs.YthbmfbnnemgbpaaGreatDoor
open Go Go.RowKit Go.Deep Go.Maps Go.BigFrame Go.Shelf
theorem KerD.S {lt : List ThrV} {lo : List ObjV} (h : KerD lt lo) : StF lt lo := by
 cases h with
 | right h => exact StF.of h
 | up h u o d hu ho hd =>
  have f := StF.of h
  refine ⟨f.tn, by simpa using f.on, fun x hx => ?_, fun x hx => ?_, f.thr⟩
  ·rcases mem_set hx with rfl | hx
   ·have t := f.data _ (List.getElem_mem hu); rw [← ho] at t; exact t
   ·exact f.data x hx
  ·rcases mem_set hx with rfl | hx
   ·have t := f.id _ (List.getElem_mem hu); rw [← ho] at t; exact t
   ·exact f.id x hx
 | kind h u o d hu ho hd =>
  have f := StF.of h
  refine ⟨f.tn, by simpa using f.on, fun x hx => ?_, fun x hx => ?_, f.thr⟩
  ·rcases mem_set hx with rfl | hx
   ·have t := f.data _ (List.getElem_mem hu); rw [← ho] at t; exact t
   ·exact f.data x hx
  ·rcases mem_set hx with rfl | hx
   ·have t := f.id _ (List.getElem_mem hu); rw [← ho] at t; exact t
   ·exact f.id x hx
 | made h X d ht hX hd =>
  have f := StF.of h
  refine ⟨by simpa using f.tn, f.on, f.data, f.id, fun x hx => ?_⟩
  rcases mem_set hx with rfl | hx
  ·have t := f.thr _ (List.getElem_mem ht); rw [← hX] at t; exact t
  ·exact f.thr x hx
set_option maxRecDepth 100000 in
set_option maxHeartbeats 2000000 in
theorem rdBytes_any (w0 : World) (rb : Nat) (a : Option Addr) (n cap : Nat) (w : World) (h : Rd w0 w rb a n cap) :
 Calls Tryz.prog 59 #[.pointer (some ⟨rb, 0, none⟩), .int .i64 2] w fun e w' => ∃ s : ByteArray, e = .returned (.string s) ∧ s.size ≤ 2 ∧ Rd w0 w' rb a n cap ∧ w.grownBy w' (some rb) := by
 have hrb : rb < w.heap.size := h.lt
 have K0 := (Below.refl _ w).alloc (Nat.le_refl _) (.cells #[] 5)
 have R0 := h.below K0
 have O0 : OwnB (w.alloc (.cells #[] 5)) w.heap.size (.slice (some ⟨w.heap.size, 0, none⟩) 0 0) [] := World.ownsRow_made w #[] 0 (Nat.le_refl _) (Nat.zero_le _) rfl
 have g0 := World.grownBy_alloc w (.cells #[] 5) (some rb)
 go_enter Tryz.func59, Tryz.ntmps59
 go_wp2_with fail
 refine (rdBelow_any w0 rb a n cap 3 _ (by omega) R0).mono ?_
 rintro e w1 ⟨x, rfl, _, hx3, R1, hg1⟩
 have O1 : OwnB w1 w.heap.size (.slice (some ⟨w.heap.size, 0, none⟩) 0 0) [] := World.ownsRow.kept O0 hg1 (Or.inr (fun e => by have := (World.ownsRow.lt O0 _ e).1; omega))
 have G1 : w.grownBy w1 (some rb) := grown_pair g0 hg1
 have hx : x < 3 := hx3 (by omega)
 clear K0 R0 O0 g0 hg1 h
 go_wp2_with fail
 go_loopw [5, 6] (fun v i wr => ∃ (j : Nat) (l : List UInt8) (g c : Nat), l.length + j ≤ 2 ∧ i = .int .i64 j ∧ v = .slice (some ⟨g, 0, none⟩) l.length c ∧ OwnB wr w.heap.size (.slice (some ⟨g, 0, none⟩) l.length c) l ∧ Rd w0 wr rb a n cap ∧ w.grownBy wr (some rb)) (fun _ i _ => (intOf i).toNat)
 case atStart => exact ⟨x, [], w.heap.size, 0, by simp; omega, rfl, rfl, O1, R1, G1⟩
 case round =>
  obtain ⟨j, l, g, c, hl, rfl, rfl, O, R, G⟩ := hrel
  clear O1 R1 G1
  by_cases hj : 0 < j
  ·have hj' : (0 : Int) < (j : Int) := by omega
   go_wp2_with fail
   refine (rdBelow_any w0 rb a n cap 256 _ (by omega) R).mono ?_
   rintro e w2 ⟨y, rfl, _, hy, R2, hg2⟩
   have hy' : y < 256 := hy (by omega)
   have hyi : (y : Int) < 256 := by omega
   have O2 : OwnB w2 w.heap.size (.slice (some ⟨g, 0, none⟩) l.length c) l := World.ownsRow.kept O hg2 (Or.inr (fun e => by have := (World.ownsRow.lt O _ e).1; omega))
   have G2 : w.grownBy w2 (some rb) := grown_pair G hg2
   have sz : w.heap.size ≤ w2.heap.size := G2.size
   have eb : ((UInt8.ofNat y).toNat : Int) = (y : Int) := by rw [UInt8.toNat_ofNat_of_lt' (by simp [UInt8.size]; omega)]
   have HL : Hid (LiesC (w2.alloc (.cells #[.int .u8 y] 5)) (some ⟨w2.heap.size, 0, none⟩) 1 [.int .u8 (UInt8.ofNat y).toNat]) := by
    show LiesC _ _ _ _
    rw [eb]
    exact one_u8 _
   have HO : Hid (OwnB (w2.alloc (.cells #[.int .u8 y] 5)) w.heap.size (.slice (some ⟨g, 0, none⟩) l.length c) l) := World.ownsRow.alloc O2 _
   have lm : l.length ≤ 1000 := by omega
   clear O R G hg2 eb
   go_wp2_with (at_builtin; refine wpList_append_byte _ rfl _ _ rfl w.heap.size _ l rfl HO.out _ 1 (UInt8.ofNat y) rfl HL.out lm (Nat.le_trans sz (by simp)) ?_; intro g' c' w3 O3 hg3)
   have hgB : w.heap.size ≤ g := (World.ownsRow.lt HO.out g rfl).1
   have hle := R2.le
   have R3 : Rd w0 w3 rb a n cap := (R2.below ((Below.refl _ w2).alloc (Nat.le_refl _) (.cells #[.int .u8 y] 5))).other hg3 (by dsimp only; omega) (by dsimp only; omega)
   have G3 : w.grownBy w3 (some rb) := grown_trans (grown_trans G2 (World.grownBy_alloc w2 _ none) (fun j e => by cases e)) hg3 (fun j e => by cases e; exact hgB)
   go_roundw
   case rel =>
    obtain ⟨q, rfl⟩ : ∃ q, j = q + 1 := ⟨j - 1, by omega⟩
    refine ⟨q, l ++ [UInt8.ofNat y], g', c', by rw [List.length_append]; simp; omega, by go_num, ?_, O3, R3, G3⟩
    first | rfl | simp
   case measure => simp [intOf]; omega
  ·obtain rfl : j = 0 := by omega
   have k1 := O.text rfl
   go_wp2
   go_ret
   exact ⟨_, rfl, by rw [size_ofR]; omega, R, G⟩
theorem cat_short {c : Int × Int} (h : Fit c) : (catText c).length ≤ 22 := by
 obtain ⟨⟨h1, h2⟩, ⟨h3, h4⟩⟩ := h
 have a1 := decL_len_le 9 c.1.toNat (by omega)
 have a2 := decL_len_le 9 c.2.toNat (by omega)
 simp only [catText, List.length_cons, List.length_append]
 omega
theorem cats_short : ∀ (l : List (Int × Int)), (∀ x ∈ l, Fit x) → (l.map catText).flatten.length ≤ 22 * l.length
 | [], _ => by simp
 | c :: l, h => by
  have h1 := cat_short (h c (by simp))
  have h2 := cats_short l (fun x hx => h x (by simp [hx]))
  simp only [List.map_cons, List.flatten_cons, List.length_append, List.length_cons]
  omega
theorem txt_short {b : Int} {l : List (Int × Int)} (h : labOk b l.length (fstAt l) (sndAt l) = true) : (txt b l).length ≤ 300 := by
 obtain ⟨h1, h2, _⟩ := labOk_out h
 have hb := inB_iff.1 h1
 have a1 := decL_len_le 0 b.toNat (by omega)
 have a2 := cats_short l (labOk_fit h)
 simp only [txt, List.length_append]
 omega
def five : Nat → ByteArray
 | 0 => ⟨#[48]⟩
 | 1 => ⟨#[49]⟩
 | 2 => ⟨#[32]⟩
 | 3 => ⟨#[44]⟩
 | _ => ⟨#[58]⟩
def fiveBlk : Obj := .cells #[.string ⟨#[48]⟩, .string ⟨#[49]⟩, .string ⟨#[32]⟩, .string ⟨#[44]⟩, .string ⟨#[58]⟩] 9
theorem five_at {W : World} {b x : Nat} (h : W.heap[b]? = some fiveBlk) (hx : x < 5) : W.cell? ⟨b, x, none⟩ = some (.string (five x)) := by
 simp only [World.cell?, h, fiveBlk]
 match x, hx with
 | 0, _ => rfl
 | 1, _ => rfl
 | 2, _ => rfl
 | 3, _ => rfl
 | 4, _ => rfl
theorem five_size (x : Nat) : (five x).size = 1 := by unfold five; split <;> rfl
set_option maxRecDepth 100000 in
set_option maxHeartbeats 4000000 in
theorem hurt_any (w0 : World) (rb : Nat) (a : Option Addr) (n cap : Nat) (s : ByteArray) (w : World) (hs : s.size ≤ 60000) (h : Rd w0 w rb a n cap) :
 Calls Tryz.prog 30 #[.pointer (some ⟨rb, 0, none⟩), .string s] w fun e w' => ∃ t : ByteArray, e = .returned (.string t) ∧ t.size ≤ s.size + 2 ∧ Below w0.heap.size w0 w' := by
 have HR := hid h
 clear h
 go_enter Tryz.func30, Tryz.ntmps30
 go_wp2_with fail
 refine (rdBelow_any _ rb a n cap 6 _ (by omega) HR.out).mono ?_
 rintro e w1 ⟨x, rfl, _, hx6, R1, _⟩
 have hx : x < 6 := hx6 (by omega)
 have HR1 := hid R1
 clear R1 hx6
 by_cases t0 : x = 0
 ·subst t0
  go_wp2_with fail
  refine (rdBytes_any _ rb a n cap _ HR1.out).mono ?_
  rintro e w2 ⟨t, rfl, ht, R2, _⟩
  have E2 := R2.E
  clear R2
  have r1 : ¬ 9223372036854775807 < s.size + t.size := by omega
  go_wp2
  go_ret
  exact ⟨_, rfl, by rw [ByteArray.size_append]; omega, E2⟩
 by_cases t1 : x = 1
 ·subst t1
  have w1' : IntKind.i64.wrap ((s.size : Int) + 1) = (s.size : Int) + 1 := by rw [IntKind.wrap_i64]; omega
  go_wp2_with fail
  refine (rdBelow_any _ rb a n cap (s.size + 1) _ (by omega) HR1.out).mono ?_
  rintro e w2 ⟨y, rfl, _, hy, R2, _⟩
  have hy' : y ≤ s.size := by have := hy (by omega); omega
  have hy2 : (y : Int) ≤ (s.size : Int) := by omega
  have E2 := R2.E
  clear R2
  go_wp2
  go_ret
  exact ⟨_, rfl, by rw [ByteArray.size_extract]; omega, E2⟩
 have t0' : ((x : Int) == 0) = false := by simpa using t0
 have t1' : ((x : Int) == 1) = false := by simp; omega
 by_cases t2 : x = 2
 ·subst t2
  by_cases hs0 : 0 < s.size
  ·have hs0' : (0 : Int) < (s.size : Int) := by omega
   go_wp2_with fail
   refine (rdBelow_any _ rb a n cap s.size _ (by omega) HR1.out).mono ?_
   rintro e w2 ⟨y, rfl, _, hy, R2, _⟩
   have hy' : y < s.size := hy (by omega)
   have y1 : (y : Int) ≤ (s.size : Int) := by omega
   have y2 : (y : Int) + 1 ≤ (s.size : Int) := by omega
   have y3 : (0 : Int) ≤ (y : Int) + 1 := by omega
   have y4 : IntKind.i64.wrap ((y : Int) + 1) = (y : Int) + 1 := by rw [IntKind.wrap_i64]; omega
   obtain ⟨A1, hA1, hz1⟩ : ∃ A, s.extract 0 y = A ∧ A.size ≤ s.size := ⟨_, rfl, by rw [ByteArray.size_extract]; omega⟩
   obtain ⟨A2, hA2, hz2⟩ : ∃ A, s.extract (y + 1) s.size = A ∧ A.size + y + 1 = s.size := ⟨_, rfl, by rw [ByteArray.size_extract]; omega⟩
   have hz3 : A1.size = y := by rw [← hA1, ByteArray.size_extract]; omega
   have HZ3 := hid hz3
   have HZ2 := hid hz2
   have RA : Hid (∀ W, Below w2.heap.size w2 W → Rd w0 W rb a n cap) := fun W h => R2.below h
   have B1 : Hid (Below w2.heap.size w2 w2.drew) := (Below.refl _ w2).drew
   have B2 : Hid (Below w2.heap.size w2 (w2.alloc fiveBlk).drew) := ((Below.refl _ w2).alloc (Nat.le_refl _) fiveBlk).drew
   have rlt := R2.lt
   have BK : Hid ((w2.alloc fiveBlk).drew.heap[w2.heap.size]? = some fiveBlk) := heap_alloc_new _ _
   clear R2 hy hz2 hz3
   go_wp2
   have n5 : ∀ (W : World) (z : Nat), z < 5 → (W.alloc (.cells #[.string ⟨#[48]⟩, .string ⟨#[49]⟩, .string ⟨#[32]⟩, .string ⟨#[44]⟩, .string ⟨#[58]⟩] 9)).cell? ⟨W.heap.size, z, none⟩ = some (.string (five z)) := fun W z hz => five_at (W := W.alloc fiveBlk) (heap_alloc_new _ _) hz
   have N5 := hid n5
   clear n5
   have HQ1 : Hid (w2.heap.size < (w2.alloc fiveBlk).drew.heap.size) := by show _ < (w2.alloc fiveBlk).heap.size; rw [World.size_alloc]; omega
   have HQ2 : Hid (some w2.heap.size ≠ some rb) := fun e => by have := Option.some.inj e; omega
   have HS1 : Hid (∀ z, ¬ 9223372036854775807 < A1.size + (five z).size) := fun z => by rw [five_size]; omega
   have HS2 : Hid (∀ z, ¬ 9223372036854775807 < A1.size + (five z).size + A2.size) := fun z => by rw [five_size]; have := HZ2.out; omega
   have RA1 := hid (RA.out _ B1.out)
   have RA2 := hid (RA.out _ B2.out)
   go_region_with (first
    | (go_at_call 34; refine (rdBelow_any w0 rb a n cap 5 _ (by decide) RA1.out).mono ?_; rintro e w3 ⟨z, rfl, _, hz, R3, g3⟩; have hz' : z < 5 := hz (by decide); have z5 : (z : Int) < 5 := Int.ofNat_lt.2 hz'; have n5 := N5.out w3 z hz'; have r1 := HS1.out z; have r2 := HS2.out z)
    | (go_at_call 34; refine (rdBelow_any w0 rb a n cap 5 _ (by decide) RA2.out).mono ?_; rintro e w3 ⟨z, rfl, _, hz, R3, g3⟩; have hz' : z < 5 := hz (by decide); have z5 : (z : Int) < 5 := Int.ofNat_lt.2 hz'; have n5 := five_at ((g3.block w2.heap.size HQ1.out HQ2.out).trans BK.out) hz'; have r1 := HS1.out z; have r2 := HS2.out z))
   all_goals (
    have E3 := R3.E
    clear R3
    go_wp2
    go_ret
    refine ⟨_, rfl, ?_, ?_⟩
    ·rw [ByteArray.size_append, ByteArray.size_append, five_size]
     have := HZ2.out
     have := HZ3.out
     omega
    ·first | exact E3 | exact E3.alloc E3.size _)
  ·have hs0' : ¬ (0 : Int) < (s.size : Int) := by omega
   have E2 := HR1.out.E
   go_wp2
   go_ret
   exact ⟨_, rfl, by omega, E2⟩
 ·have t2' : ((x : Int) == 2) = false := by simp; omega
  have E2 := HR1.out.E
  go_wp2
  go_ret
  exact ⟨_, rfl, by omega, E2⟩
end Go.Proofs.YthbmfbnnemgbpaaGreatDoor
namespace Go.Proofs.YthbmfbnnemgbpaaGreatDoor
open Go Go.RowKit
theorem num_at {k : Nat} {L R : List UInt8} {x : Int} (h : rst k L = decL x.toNat ++ 32 :: R) (hx : 0 ≤ x ∧ x ≤ 9999) : numAtB k L = true ∧ nm k L = x ∧ rst (k + 1) L = R := by
 obtain ⟨a, b⟩ := dec_at h hx
 refine ⟨a, ?_, b⟩
 obtain ⟨_, h2, _⟩ := cut_at h (digit_not (by decide) _)
 unfold nm numL
 rw [h2, if_pos (okD_dec (by omega)), val_dec]
 omega
theorem rl_at {k : Nat} {L R : List UInt8} {b : Int} {l : List (Int × Int)} (h : rst k L = txt b l ++ 32 :: R) (hx : labOk b l.length (fstAt l) (sndAt l) = true) : labAtB k L = true ∧ rl k L = (b, l, true) ∧ rst (k + 1) L = R := by
 obtain ⟨a, c⟩ := lab_at h hx
 refine ⟨a, ?_, c⟩
 obtain ⟨_, h2, _⟩ := cut_at h (txt_no32 b l)
 unfold rl
 rw [h2, read_txt hx]
def stepX (th kind id to' cat : Int) (d : ByteArray) (bl : Int) (l1 : List (Int × Int)) (bc : Int) (l2 : List (Int × Int)) : ByteArray := stepA th kind id to' cat d bl l1.length (fstAt l1) (sndAt l1) bc l2.length (fstAt l2) (sndAt l2)
def okX (th kind id to' cat : Int) (d : ByteArray) (bl : Int) (l1 : List (Int × Int)) (bc : Int) (l2 : List (Int × Int)) : Bool := stepOk th kind id to' cat d bl l1.length (fstAt l1) (sndAt l1) bc l2.length (fstAt l2) (sndAt l2)
theorem stepX_list {th kind id to' cat : Int} {d : ByteArray} {bl : Int} {l1 : List (Int × Int)} {bc : Int} {l2 : List (Int × Int)} (h : okX th kind id to' cat d bl l1 bc l2 = true) :
 (stepX th kind id to' cat d bl l1 bc l2).data.toList = decL th.toNat ++ 32 :: (decL kind.toNat ++ 32 :: (decL id.toNat ++ 32 :: (decL to'.toNat ++ 32 :: (decL cat.toNat ++ 32 :: (txt bl l1 ++ 32 :: (txt bc l2 ++ 32 :: d.data.toList)))))) := by
 unfold stepX stepA
 unfold okX at h
 rw [if_pos h, stepT_list]
 simp only [decB_list, catsTo_list]
theorem read_again {th kind id to' cat : Int} {d : ByteArray} {bl : Int} {l1 : List (Int × Int)} {bc : Int} {l2 : List (Int × Int)} (h : okX th kind id to' cat d bl l1 bc l2 = true) :
 readS (stepX th kind id to' cat d bl l1 bc l2).data.toList = ⟨th, kind, id, to', cat, d, bl, l1, bc, l2, true⟩ := by
 have e := stepX_list h
 obtain ⟨g0, g1, g2, g3, g4, _, g5, g6⟩ := step_is _ _ _ _ _ _ _ _ _ _ _ _ _ _ h
 generalize (stepX th kind id to' cat d bl l1 bc l2).data.toList = L at *
 obtain ⟨k0, n0, r1⟩ := num_at (k := 0) (L := L) e g0
 obtain ⟨k1, n1, r2⟩ := num_at r1 g1
 obtain ⟨k2, n2, r3⟩ := num_at r2 g2
 obtain ⟨k3, n3, r4⟩ := num_at r3 g3
 obtain ⟨k4, n4, r5⟩ := num_at r4 g4
 obtain ⟨k5, n5, r6⟩ := rl_at r5 g5
 obtain ⟨k6, n6, r7⟩ := rl_at r6 g6
 have ed : (⟨(rst 7 L).toArray⟩ : ByteArray) = d := by rw [r7]
 have hr : rightS L = true := by
  unfold rightS
  rw [n0, n1, n2, n3, n4, n5, n6, ed]
  exact h
 have hs : strictS L = true := by
  unfold strictS
  rw [k0, k1, k2, k3, k4, k5, k6, hr]
  rfl
 unfold readS yesS
 rw [if_pos hs, n0, n1, n2, n3, n4, n5, n6, ed]
theorem read_none {th kind id to' cat : Int} {d : ByteArray} {bl : Int} {l1 : List (Int × Int)} {bc : Int} {l2 : List (Int × Int)} (h : okX th kind id to' cat d bl l1 bc l2 = false) :
 readS (stepX th kind id to' cat d bl l1 bc l2).data.toList = noS := by
 unfold stepX stepA
 unfold okX at h
 rw [if_neg (by rw [h]; simp)]
 have hs : strictS [] = false := by simp [strictS, numAtB, fnd, rst, cutL]
 show readS [] = noS
 unfold readS
 rw [hs]
 rfl
theorem write_again {L : List UInt8} (h : (readS L).ok = true) : stepX (readS L).th (readS L).kind (readS L).id (readS L).to' (readS L).cat (readS L).d (readS L).b1 (readS L).l1 (readS L).b2 (readS L).l2 = ⟨L.toArray⟩ := by
 have hs : strictS L = true := by
  unfold readS at h
  split at h
  ·assumption
  ·cases h
 have e : readS L = yesS L := by unfold readS; rw [if_pos hs]
 rw [e]
 have := (strict_yes hs).2
 have t : (stepX (yesS L).th (yesS L).kind (yesS L).id (yesS L).to' (yesS L).cat (yesS L).d (yesS L).b1 (yesS L).l1 (yesS L).b2 (yesS L).l2) = againS L := by simp only [stepX, againS, yesS]
 rw [t]
 apply ByteArray.ext
 apply Array.ext'
 rw [this]
theorem read_right {L : List UInt8} (h : (readS L).ok = true) : okX (readS L).th (readS L).kind (readS L).id (readS L).to' (readS L).cat (readS L).d (readS L).b1 (readS L).l1 (readS L).b2 (readS L).l2 = true := by
 have hs : strictS L = true := by
  unfold readS at h
  split at h
  ·assumption
  ·cases h
 have e : readS L = yesS L := by unfold readS; rw [if_pos hs]
 rw [e]
 unfold strictS at hs
 simp only [Bool.and_eq_true] at hs
 have t := hs.2
 unfold rightS at t
 simp only [okX, yesS]
 exact t
theorem CatsAt.list {w : World} {a : Option Addr} {n : Nat} {f g : Nat → Int} (h : CatsAt w a n f g) : CatsAt w a (catsTo f g n).length (fstAt (catsTo f g n)) (sndAt (catsTo f g n)) := by
 have hl : (catsTo f g n).length = n := by simp [catsTo]
 rw [hl]
 intro hn
 obtain ⟨b, off, e, hb, hc⟩ := h hn
 refine ⟨b, off, e, hb, fun i hi => ?_⟩
 have e1 : fstAt (catsTo f g n) i = f i := by simp [fstAt, catsTo, hi]
 have e2 : sndAt (catsTo f g n) i = g i := by simp [sndAt, catsTo, hi]
 rw [e1, e2]
 exact hc i hi
theorem size_data (X : ByteArray) : X.size = X.data.toList.length := by rw [Array.length_toList]; rfl
theorem stepX_short (th kind id to' cat : Int) (d : ByteArray) (bl : Int) (l1 : List (Int × Int)) (bc : Int) (l2 : List (Int × Int)) : (stepX th kind id to' cat d bl l1 bc l2).size ≤ 60000 := by
 cases h : okX th kind id to' cat d bl l1 bc l2 with
 | true =>
  have e := stepX_list h
  obtain ⟨g0, g1, g2, g3, g4, g7, g5, g6⟩ := step_is _ _ _ _ _ _ _ _ _ _ _ _ _ _ h
  have t1 := txt_short g5
  have t2 := txt_short g6
  have d0 := decL_len th.toNat
  have d1 := decL_len kind.toNat
  have d2 := decL_len id.toNat
  have d3 := decL_len to'.toNat
  have d4 := decL_len cat.toNat
  have sd : d.data.toList.length = d.size := (size_data d).symm
  rw [size_data, e]
  simp only [List.length_append, List.length_cons, sd]
  omega
 | false =>
  unfold stepX stepA
  unfold okX at h
  rw [if_neg (by rw [h]; simp)]
  show (0 : Nat) ≤ _
  omega
end Go.Proofs.YthbmfbnnemgbpaaGreatDoor
