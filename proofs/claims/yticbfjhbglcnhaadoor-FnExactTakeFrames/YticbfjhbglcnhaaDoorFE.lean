/- Slices of texts: comparison, marks and their reading. -/
import Derived.Test.YticbfjhbglcnhaaDoorFD
namespace Go.Proofs.YticbfjhbglcnhaaDoor
open Go Go.RowKit Go.Deep Go.Maps Go.BigFrame

theorem one_byte (w : World) (x : Int) (h0 : 0 ≤ x) (h1 : x < 256) :
    (convert 34 9 (Value.slice (some ⟨w.heap.size, 0, none⟩) 1 1)).run Tryd.prog (w.alloc (.cells #[.int .u8 x] 5)) = .ok (.string ⟨#[UInt8.ofNat x.toNat]⟩) (w.alloc (.cells #[.int .u8 x] 5)) := by
  refine run_convert_bytes_back (P := Tryd.prog) (w.alloc (.cells #[.int .u8 x] 5)) 34 9 5 ⟨w.heap.size, 0, none⟩ 1 [UInt8.ofNat x.toNat] Tryd.underlying34 Tryd.underlying5 Tryd.underlying9 fun j hj => ?_
  obtain rfl : j = 0 := by simpa using hj
  have e : (((UInt8.ofNat x.toNat).toNat : Nat) : Int) = x := by
    rw [UInt8.toNat_ofNat_of_lt' (by simp [UInt8.size]; omega)]
    omega
  simp only [List.getElem_cons_zero, e]
  simp [Addr.add]
theorem bytes_cons (b : UInt8) (l : List UInt8) : ((⟨#[b]⟩ : ByteArray) ++ (⟨l.toArray⟩ : ByteArray)) = ⟨(b :: l).toArray⟩ := by
  apply ByteArray.ext
  apply Array.ext'
  simp

/-- the digits of a number, none of 0 -/
def digs (n : Nat) : List UInt8 := if _h : n = 0 then [] else digs (n / 10) ++ [UInt8.ofNat (48 + n % 10)]
termination_by n
decreasing_by omega
theorem digs_zero : digs 0 = [] := by rw [digs, dif_pos rfl]
theorem digs_pos {n : Nat} (h : ¬ n = 0) : digs n = digs (n / 10) ++ [UInt8.ofNat (48 + n % 10)] := by rw [digs, dif_neg h]
theorem digs_len (n : Nat) : (digs n).length ≤ n := by
  induction n using Nat.strongRecOn with
  | _ n ih =>
    by_cases h : n = 0
    · subst h; rw [digs_zero]; simp
    · rw [digs_pos h, List.length_append]
      have := ih (n / 10) (by omega)
      simp
      omega

set_option maxRecDepth 100000 in
set_option maxHeartbeats 2000000 in
theorem markText_any (n : Nat) (w : World) (h1 : 0 < n) (hn : n ≤ 10000000000) :
    Calls Tryd.prog 19 #[.int .i64 n] w fun e w' => e = .returned (.string ⟨(109 :: digs n).toArray⟩) ∧ Below w.heap.size w w' := by
  have hlen := digs_len n
  go_enter Tryd.func19, Tryd.ntmps19
  go_wp2
  go_loopw [0, 3] (fun x s wr => ∃ (k : Nat) (l : List UInt8), k ≤ n ∧ x = .int .i64 k ∧ s = .string ⟨l.toArray⟩ ∧ digs n = digs k ++ l ∧ Below w.heap.size w wr) (fun x _ _ => (intOf x).toNat)
  case atStart => exact ⟨n, [], Nat.le_refl _, rfl, rfl, by simp, Below.refl _ _⟩
  case round =>
    obtain ⟨k, l, hk, rfl, rfl, hd, hB⟩ := hrel
    have hl : l.length ≤ 10000000001 := by
      have := congrArg List.length hd
      rw [List.length_append] at this
      omega
    have HD : Hid (digs n = digs k ++ l) := hd
    clear hd
    by_cases h0 : k = 0
    · subst h0
      go_wp2
      go_ret
      refine ⟨?_, hB⟩
      rw [bytes_cons, HD.out, digs_zero]
      rfl
    · have h0' : (0 : Int) < (k : Int) := by omega
      obtain ⟨b, hb⟩ : ∃ b, b = UInt8.ofNat (48 + (k : Int) % 10).toNat := ⟨_, rfl⟩
      have ob := fun (w : World) => one_byte w (48 + (k : Int) % 10) (by omega) (by omega)
      rw [← hb] at ob
      have HB : Hid (b = UInt8.ofNat (48 + k % 10)) := hb
      clear hb
      go_wp2
      go_roundw
      case rel =>
        refine ⟨k / 10, b :: l, by omega, by go_num, by rw [bytes_cons], ?_, hB.alloc hB.size _⟩
        rw [HD.out, digs_pos h0, ← HB.out, List.append_assoc]
        rfl
      case measure => simp [intOf]; omega

/-- texts lie there -/
def StrAt (w : World) (a : Option Addr) (n : Nat) (f : Nat → ByteArray) : Prop := 0 < n → ∃ b off, a = some ⟨b, off, none⟩ ∧ b < w.heap.size ∧ ∀ i, i < n → w.cell? ⟨b, off + i, none⟩ = some (.string (f i))
theorem StrAt.below {w w' : World} {a : Option Addr} {n : Nat} {f : Nat → ByteArray} (h : StrAt w a n f) (hb : Below w.heap.size w w') : StrAt w' a n f := fun hn => by
  obtain ⟨b, off, e, hlt, hc⟩ := h hn
  exact ⟨b, off, e, Nat.lt_of_lt_of_le hlt hb.size, fun i hi => (hb.cell (p := ⟨b, off + i, none⟩) hlt).trans (hc i hi)⟩
theorem StrAt.grown {w w' : World} {a : Option Addr} {n b : Nat} {f : Nat → ByteArray} (H : StrAt w a n f) (hg : w.grownBy w' (some b)) (hne : 0 < n → ∀ p : Addr, a = some p → p.block ≠ b) : StrAt w' a n f := fun hn => by
  obtain ⟨b', off, rfl, hlt, hc⟩ := H hn
  have hx : ∀ o, w'.cell? ⟨b', o, none⟩ = w.cell? ⟨b', o, none⟩ := fun o => World.grownBy.cell_far hg ⟨b', o, none⟩ hlt (fun e => hne hn _ rfl (Option.some.inj e))
  exact ⟨b', off, rfl, Nat.lt_of_lt_of_le hlt hg.size, fun i hi => by rw [hx]; exact hc i hi⟩
/-- a slice of texts that may be written: it begins block b -/
def RowS (w : World) (a : Option Addr) (b n : Nat) : Prop := 0 < n → a = some ⟨b, 0, none⟩ ∧ ∃ m F, n ≤ m ∧ w.rowIs b 9 m F
theorem RowS.below {w w' : World} {a : Option Addr} {b n : Nat} (h : RowS w a b n) (hb : Below w.heap.size w w') : RowS w' a b n := fun h0 => by
  obtain ⟨e, m, F, hm, hr⟩ := h h0
  exact ⟨e, m, F, hm, hr.of_block (hb.block b hr.lt)⟩
def atS (X : List ByteArray) (i : Nat) : ByteArray := X[i]?.getD ⟨#[]⟩
theorem ownAtS {w : World} {B g c : Nat} {X : List ByteArray} (h : OwnS w B (.slice (some ⟨g, 0, none⟩) X.length c) X) : StrAt w (some ⟨g, 0, none⟩) X.length (atS X) := fun hn => by
  have hl := (World.ownsRow.lt h g rfl).2
  refine ⟨g, 0, rfl, hl, fun i hi => ?_⟩
  have hc : w.cell? ⟨g, 0 + i, none⟩ = (scells X)[0 + i]? := World.ownsRow.cellAt h (0 + i) (by omega)
  rw [hc, scells, atS, List.getElem?_map, Nat.zero_add, List.getElem?_eq_getElem hi]
  rfl
theorem ownRowS {w : World} {B g c : Nat} {X : List ByteArray} (h : OwnS w B (.slice (some ⟨g, 0, none⟩) X.length c) X) : RowS w (some ⟨g, 0, none⟩) g X.length := fun _ => by
  obtain ⟨_, hx⟩ := h
  rcases hx with ⟨hv, _⟩ | ⟨g', cap, cur, hv, _, hh, hnc, _, hcs, _⟩
  · simp at hv
  · simp only [Value.slice.injEq, Option.some.injEq, Addr.mk.injEq, and_true] at hv
    obtain ⟨rfl, _, rfl⟩ := hv
    refine ⟨rfl, c * 1, fun i => cur[i]!, by omega, ?_⟩
    refine ⟨cur, hh, hcs, fun i hi => ?_⟩
    show _ = some cur[i]!
    rw [Array.getElem?_eq_getElem (by omega), getElem!_pos cur i (by omega)]
/-- what TakeFrames answers, in sight -/
def ResS (w w' : World) (e : Ending) (X : List ByteArray) (k : Nat) : Prop :=
  ∃ a b c, e = .returned (.tuple #[.slice a X.length c, .int .i64 (k : Nat)]) ∧ StrAt w' a X.length (atS X) ∧ RowS w' a b X.length ∧ w.heap.size ≤ b ∧ Below w.heap.size w w'
theorem ResS.of {w w' : World} {s : ByteArray} {e : Ending} (h : TakesTo w s e w') : ResS w w' e (taken s).1 (taken s).2 := by
  obtain ⟨B, v, rfl, hB, hO, hb⟩ := h
  rcases hO.2 with ⟨hv, hl⟩ | ⟨g, cap, cur, hv, hbg, rest⟩
  · have hl' : (taken s).1.length = 0 := hl
    exact ⟨none, w.heap.size, 0, by rw [hv, hl'], fun h => by omega, fun h => by omega, Nat.le_refl _, hb⟩
  · have hO' : OwnS w' B (.slice (some ⟨g, 0, none⟩) (taken s).1.length cap) (taken s).1 := by rw [← hv]; exact hO
    exact ⟨some ⟨g, 0, none⟩, g, cap, by rw [hv], ownAtS hO', ownRowS hO', by omega, hb⟩

set_option maxRecDepth 100000 in
theorem eqStringS_true (a1 a2 : Option Addr) (n c1 c2 : Nat) (f : Nat → ByteArray) (w : World) (hn : n ≤ maxLen) (H1 : StrAt w a1 n f) (H2 : StrAt w a2 n f) :
    Calls Tryd.prog 9 #[.slice a1 n c1, .slice a2 n c2] w fun e w' => e = .returned (.bool true) ∧ Below w.heap.size w w' := by
  unfold maxLen at hn
  go_enter Tryd.func9, Tryd.ntmps9
  go_wp2
  go_loopw [5] (fun i wr => ∃ j : Nat, j ≤ n ∧ i = .int .i64 j ∧ Below w.heap.size w wr) (fun i _ => n - (intOf i).toNat)
  case atStart => exact ⟨0, Nat.zero_le _, rfl, Below.refl _ _⟩
  case round =>
    obtain ⟨j, hj, rfl, hB⟩ := hrel
    by_cases hlt : j < n
    · obtain ⟨b1, o1, rfl, hz1, hc1⟩ := H1 (by omega)
      obtain ⟨b2, o2, rfl, hz2, hc2⟩ := H2 (by omega)
      have u1 : ∀ p : Up wr, p.W.cell? ⟨b1, o1 + j, none⟩ = some (.string (f j)) := fun p => ((then_ hB p.h).cell (p := ⟨b1, _, none⟩) hz1).trans (hc1 j hlt)
      have u2 : ∀ p : Up wr, p.W.cell? ⟨b2, o2 + j, none⟩ = some (.string (f j)) := fun p => ((then_ hB p.h).cell (p := ⟨b2, _, none⟩) hz2).trans (hc2 j hlt)
      have i0 : (j : Int) < (n : Int) := by omega
      clear hc1 hc2 H1 H2
      go_wp2
      refine wp_region_quiet_up (by kernel_rfl) (by kernel_rfl) ?_
      repeat (go_big_quiet_step (fail))
      refine wpQuiet_nil ?_
      rintro _ ⟨p, rfl⟩
      go_wp2
      exact ⟨⟨j + 1, by omega, rfl, then_ hB p.h⟩, by simp [intOf]; omega⟩
    · clear H1 H2
      go_wp2
      go_ret
      exact ⟨rfl, hB⟩

/-- the text of a mark -/
def mkS (i : Nat) : ByteArray := ⟨(109 :: digs (1 + i)).toArray⟩

set_option maxRecDepth 100000 in
set_option maxHeartbeats 1000000 in
theorem markStringS_any (a : Option Addr) (b n cap : Nat) (w : World) (hn : n ≤ 1048576) (hr : RowS w a b n) :
    Calls Tryd.prog 10 #[.slice a n cap, .int .i64 1] w fun e w' => e = .returned (.int .i64 (1 + n)) ∧ w.grownBy w' (some b) ∧ StrAt w' a n mkS := by
  have M := hid (fun (j : Nat) (hj : j < n) w => markText_any (1 + j) w (by omega) (by omega))
  go_enter Tryd.func10, Tryd.ntmps10
  go_wp2
  go_loopw [1, 5] (fun kk i wr => ∃ j : Nat, j ≤ n ∧ i = .int .i64 j ∧ kk = .int .i64 (1 + j : Nat) ∧ w.grownBy wr (some b) ∧ RowS wr a b n ∧ (∀ i, i < j → wr.cell? ⟨b, i, none⟩ = some (.string (mkS i)))) (fun _ i _ => n - (intOf i).toNat)
  case atStart => exact ⟨0, Nat.zero_le _, rfl, rfl, ⟨rfl, rfl, rfl, Nat.le_refl _, fun _ _ _ => rfl⟩, hr, fun i hi => by omega⟩
  case round =>
    obtain ⟨j, hj, rfl, rfl, hg, hrow, hcells⟩ := hrel
    have HCL := hid hcells
    clear hcells
    by_cases hlt : j < n
    · obtain ⟨rfl, m, F, hm, hR⟩ := hrow (by omega)
      have HR := hid hR
      have MJ := hid (M.out j hlt)
      have i0 : (j : Int) < (n : Int) := by omega
      clear hR hrow hr M
      go_wp2_with (go_at_call 19; refine (MJ.out _).mono ?_; rintro e w2 ⟨rfl, h2⟩; have R2 := hid (HR.out.of_block (h2.block b HR.out.lt)); have c1 := R2.out.cell (i := j) (Nat.lt_of_lt_of_le hlt hm); have f1 := R2.out.frozen j)
      go_roundw
      case rel =>
        have R1 := R2.out.set j (.string (mkS j))
        refine ⟨j + 1, by omega, by go_num, by go_num, ?_, fun _ => ⟨rfl, m, _, hm, R1⟩, fun i hi => ?_⟩
        · have g2 : w.grownBy w2 (some b) := ⟨h2.os.trans hg.os, h2.tape.trans hg.tape, h2.output.trans hg.output, Nat.le_trans hg.size h2.size, fun k hk hne => (h2.block k (Nat.lt_of_lt_of_le hk hg.size)).trans (hg.block k hk hne)⟩
          exact ⟨g2.os, g2.tape, g2.output, by rw [nblk_setCell]; exact g2.size, fun k hk hne => (blk_setCell_other _ _ _ _ (by dsimp only; intro e; exact hne (by rw [e]))).trans (g2.block k hk hne)⟩
        · show (w2.setCell ⟨b, j, none⟩ (.string (mkS j))).cell? ⟨b, i, none⟩ = _
          rw [R1.cell (i := i) (by omega)]
          by_cases e : i = j
          · subst e; rw [if_pos rfl]
          · have d := HCL.out i (by omega)
            have hb' : w2.cell? ⟨b, i, none⟩ = wr.cell? ⟨b, i, none⟩ := h2.cell (p := ⟨b, i, none⟩) HR.out.lt
            rw [← hb', R2.out.cell (i := i) (by omega)] at d
            rw [if_neg e]
            exact d
      case measure => simp [intOf]; omega
    · have ej : j = n := by omega
      subst ej
      go_wp2
      go_ret
      refine ⟨by simp, hg, fun hp => ?_⟩
      obtain ⟨rfl, m, F, hm, hR⟩ := hrow hp
      exact ⟨b, 0, rfl, hR.lt, fun i hi => by rw [Nat.zero_add]; exact HCL.out i hi⟩

set_option maxRecDepth 100000 in
set_option maxHeartbeats 1000000 in
theorem heldStringS_any (a : Option Addr) (n cap : Nat) (w : World) (hn : n ≤ 1048576) (H : StrAt w a n mkS) :
    Calls Tryd.prog 11 #[.slice a n cap, .int .i64 1] w fun e w' => e = .returned (.int .i64 (1 + n)) ∧ Below w.heap.size w w' := by
  have M := hid (fun (j : Nat) (hj : j < n) w => markText_any (1 + j) w (by omega) (by omega))
  go_enter Tryd.func11, Tryd.ntmps11
  go_wp2
  go_loopw [1, 5] (fun kk i wr => ∃ j : Nat, j ≤ n ∧ i = .int .i64 j ∧ kk = .int .i64 (1 + j : Nat) ∧ Below w.heap.size w wr) (fun _ i _ => n - (intOf i).toNat)
  case atStart => exact ⟨0, Nat.zero_le _, rfl, rfl, Below.refl _ _⟩
  case round =>
    obtain ⟨j, hj, rfl, rfl, hB⟩ := hrel
    by_cases hlt : j < n
    · obtain ⟨b, off, rfl, hz, hc⟩ := H (by omega)
      have u1 : ∀ p : Up wr, p.W.cell? ⟨b, off + j, none⟩ = some (.string (mkS j)) := fun p => ((then_ hB p.h).cell (p := ⟨b, _, none⟩) hz).trans (hc j hlt)
      have MJ : Hid (∀ W, Calls Tryd.prog 19 #[.int .i64 (1 + j : Nat)] W fun e w' => e = .returned (.string (mkS j)) ∧ Below W.heap.size W w') := M.out j hlt
      have i0 : (j : Int) < (n : Int) := by omega
      clear hc H M
      generalize mkS j = X at *
      go_wp2
      refine wp_region_quiet_up (by kernel_rfl) (by kernel_rfl) ?_
      repeat (go_big_quiet_step (first | (go_at_call 19; exact up_of (MJ.out _))))
      refine wpQuiet_nil ?_
      rintro _ ⟨p, rfl⟩
      go_wp2
      exact ⟨⟨j + 1, by omega, by go_num, by go_num, then_ hB p.h⟩, by simp [intOf]; omega⟩
    · have ej : j = n := by omega
      subst ej
      clear H
      go_wp2
      go_ret
      exact ⟨by simp, hB⟩
end Go.Proofs.YticbfjhbglcnhaaDoor
