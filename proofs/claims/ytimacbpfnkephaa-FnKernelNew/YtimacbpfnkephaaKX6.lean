/- Where a thread stands, by the library's IndexFunc; ThreadOf, both sides. -/
import Derived.Test.YtimacbpfnkephaaKX3
import Derived.Test.YtimacbpfnkephaaKB9
import Derived.Test.YtimacbpfnkephaaKB13
import Derived.Test.YtimacbpfnkephaaKB10
namespace Go.Proofs.Ytimacbpfnkephaa
open Go Go.RowKit Go.Deep Go.Maps

set_option maxRecDepth 100000 in
set_option maxHeartbeats 2000000 in
theorem isId_any (t : ThrV) (x : Int) (P : Nat) (w : World) (hP : w.cell? ⟨P, 0, none⟩ = some (.int .i64 x)) (hl : P < w.heap.size) :
    Calls Try.prog 32 #[.agg #[.int .i64 t.id, .int .i64 t.b1, .slice t.c1.a t.c1.n t.c1.k, .int .i64 t.b2, .slice t.c2.a t.c2.n t.c2.k, .slice t.own.a t.own.n t.own.k, .int .i64 t.made], .pointer (some ⟨P, 0, none⟩)] w fun e w' => e = .returned (.bool (t.id == x)) ∧ Below w.heap.size w w' := by
  have b0 := (Below.refl _ w).alloc (Nat.le_refl _) (.cells #[.int .i64 t.id, .int .i64 t.b1, .slice t.c1.a t.c1.n t.c1.k, .int .i64 t.b2, .slice t.c2.a t.c2.n t.c2.k, .slice t.own.a t.own.n t.own.k, .int .i64 t.made] 41)
  have h1 := (b0.cell (p := ⟨P, 0, none⟩) hl).trans hP
  go_enter Try.func32, Try.ntmps32
  go_wp2
  go_ret
  exact ⟨rfl, b0⟩

set_option maxRecDepth 100000 in
set_option maxHeartbeats 2000000 in
theorem indexFunc_any (a : Option Addr) (n cap : Nat) (T : Nat → ThrV) (x : Int) (P : Nat) (w : World) (hn : n ≤ maxLen) (hT : ThrsAt w a n T) (hP : w.cell? ⟨P, 0, none⟩ = some (.int .i64 x)) (hl : P < w.heap.size) :
    Calls Try.prog 31 #[.slice a n cap, .func (.func 32) #[] #[.pointer (some ⟨P, 0, none⟩)]] w fun e w' => e = .returned (.int .i64 (idxI (findI (fun i => (T i).id) n x))) ∧ Below w.heap.size w w' := by
  unfold maxLen at hn
  have HT := hid hT
  clear hT
  go_enter Try.func31, Try.ntmps31
  go_wp2
  go_loopw [8] (fun i wr => ∃ q : Nat, q ≤ n ∧ i = .int .i64 q ∧ Hid (∀ j, j < q → (T j).id ≠ x) ∧ Below w.heap.size w wr) (fun i _ => n - (intOf i).toNat)
  case atStart => exact ⟨0, Nat.zero_le _, rfl, hid (fun j hj => by omega), Below.refl _ _⟩
  case round =>
    obtain ⟨q, hq, rfl, HA, hB⟩ := hrel
    by_cases hlt : q < n
    · obtain ⟨b, off, rfl, _, hcc⟩ := HT.out.below hB (by omega)
      obtain ⟨⟨q0, q1, q2, q3, q4, q5, q6⟩, ht⟩ := hcc q hlt
      simp only [CatL.val, IntL.val] at q2 q4 q5
      have i1 : (q : Int) < (n : Int) := by omega
      have hp := (hB.cell (p := ⟨P, 0, none⟩) hl).trans hP
      have C1 := hid (isId_any (T q) x P wr hp (Nat.lt_of_lt_of_le hl hB.size))
      clear hcc ht
      by_cases e : (T q).id = x
      · have HF := hid (findI_first (ids := fun i => (T i).id) hlt e HA.out)
        have e' : ((T q).id == x) = true := by simpa using e
        rw [e'] at C1
        clear e HA e'
        go_wp2_with (go_at_call 32; refine C1.out.mono ?_; rintro e w1 ⟨rfl, hb1⟩; have B1 := then_ hB hb1)
        go_ret
        exact ⟨ret_int (by rw [HF.out]; rfl), B1⟩
      · have e' : ((T q).id == x) = false := by simpa using e
        have HA2 : Hid (∀ j, j < q + 1 → (T j).id ≠ x) := hid (fun j hj => by
          by_cases ej : j = q
          · subst ej; exact e
          · exact HA.out j (by omega))
        rw [e'] at C1
        clear e HA e'
        go_wp2_with (go_at_call 32; refine C1.out.mono ?_; rintro e w1 ⟨rfl, hb1⟩; have B1 := then_ hB hb1)
        exact ⟨⟨q + 1, by omega, by go_num, HA2, B1⟩, by simp [intOf]; omega⟩
    · have i1 : ¬ (q : Int) < (n : Int) := by omega
      have HF := hid (findI_no (ids := fun i => (T i).id) (n := n) (x := x) (fun j hj => HA.out j (by omega)))
      clear HA
      go_wp2
      go_ret
      exact ⟨ret_int (by rw [HF.out]; rfl), hB⟩

set_option maxRecDepth 100000 in
set_option maxHeartbeats 2000000 in
theorem threadPlace_any (a : Option Addr) (n cap : Nat) (T : Nat → ThrV) (x : Int) (w : World) (hn : n ≤ maxLen) (hT : ThrsAt w a n T) :
    Calls Try.prog 17 #[.slice a n cap, .int .i64 x] w fun e w' => e = .returned (.int .i64 (idxI (findI (fun i => (T i).id) n x))) ∧ Below w.heap.size w w' := by
  have b0 : Below w.heap.size w (w.alloc (.cells #[.int .i64 x] 2)) := (Below.refl _ w).alloc (Nat.le_refl _) _
  have A0 := Blk.new w (.cells #[.int .i64 x] 2)
  have C1 := hid (indexFunc_any a n cap T x w.heap.size _ hn (hT.below b0) (A0.c0 0 rfl) A0.lt)
  clear hT
  go_enter Try.func17, Try.ntmps17
  go_wp2_with (go_at_call 31; refine C1.out.mono ?_; rintro e w1 ⟨rfl, hb1⟩; have B1 := then_ b0 hb1)
  go_ret
  exact ⟨rfl, B1⟩
end Go.Proofs.Ytimacbpfnkephaa
