/- The place of a file; ops that are formed. -/
import Derived.Test.YtcchpeebhkiacaaZB
namespace Go.Proofs.Ytcchpeebhkiacaa
open Go.RowKit Go.Deep

theorem eqS_true {x y : ByteArray} (h : x = y) : (x.toList == y.toList) = true := by subst h; exact beq_iff_eq.2 rfl
theorem eqS_false {x y : ByteArray} (h : x ≠ y) : (x.toList == y.toList) = false := by
  rw [Lib.toList_data, Lib.toList_data]
  exact beq_eq_false_iff_ne.2 (fun e => h (key_inj e))
/-- what the place of a file is -/
def AtIs (n : Nat) (f : Nat → FileV) (s : ByteArray) (r : Int) : Prop := (∃ i : Nat, i < n ∧ r = i ∧ (f i).name = s ∧ ∀ j, j < i → (f j).name ≠ s) ∨ (r = -1 ∧ ∀ j, j < n → (f j).name ≠ s)

set_option maxRecDepth 100000 in
set_option maxHeartbeats 2000000 in
theorem l11At_any (l : FileL) (s : ByteArray) (w : World) (hl : l.at w) :
    Calls Try.prog 43 #[l.val, .string s] w fun e w' => ∃ r : Int, e = .returned (.int .i64 r) ∧ AtIs l.n l.f s r ∧ Below w.heap.size w w' := by
  obtain ⟨a, n, cap, f⟩ := l
  obtain ⟨hn, hc, hf⟩ := hl
  simp only at hn hc hf
  unfold FileL.val
  unfold maxLen at hn
  simp only
  clear hf
  go_enter Try.func43, Try.ntmps43
  go_wp2
  go_loopw [5] (fun i wr => ∃ k : Nat, k ≤ n ∧ i = .int .i64 k ∧ (∀ j, j < k → (f j).name ≠ s) ∧ Below w.heap.size w wr) (fun i _ => n - (intOf i).toNat)
  case atStart => exact ⟨0, Nat.zero_le _, rfl, fun j hj => by omega, Below.refl _ _⟩
  case round =>
    obtain ⟨k, hk, rfl, hall, hB⟩ := hrel
    have HA := hid hall
    clear hall
    by_cases hlt' : k < n
    · obtain ⟨b, off, rfl, hlt, hcc⟩ := hc (by omega)
      have g1 : wr.cell? ⟨b, off + k * 2, none⟩ = some (.string (f k).name) := (hB.cell (p := ⟨b, _, none⟩) hlt).trans (hcc k hlt').1
      have i0 : (0 : Int) ≤ (k : Int) := by omega
      have i1 : (k : Int) < (n : Int) := by omega
      clear hc hcc
      by_cases t : (f k).name = s
      · have t' := eqS_true t
        have HT := hid t
        clear t
        go_wp2
        go_ret
        exact ⟨_, rfl, .inl ⟨k, hlt', rfl, HT.out, HA.out⟩, hB⟩
      · have t' := eqS_false t
        have HT := hid t
        clear t
        go_wp2
        go_roundw
        case rel => exact ⟨k + 1, by omega, by go_num, fun j hj => by
          by_cases e : j = k
          · rw [e]; exact HT.out
          · exact HA.out j (by omega), hB⟩
        case measure => simp [intOf]; omega
    · clear hc
      obtain rfl : k = n := by omega
      go_wp2
      go_ret
      exact ⟨_, rfl, .inr ⟨rfl, HA.out⟩, hB⟩

/-- is an op formed? -/
def opForm (o : OpV) : Bool := inB o.kind 1 3 && nmOk o.name && (if o.kind = 2 then nmOk o.to && o.data.toList.isEmpty else o.to.toList.isEmpty && (decide (o.kind = 1) || o.data.toList.isEmpty))
set_option maxRecDepth 100000 in
set_option maxHeartbeats 2000000 in
theorem l11Form_any (o : OpV) (w : World) (ho : o.wf) :
    Calls Try.prog 29 #[o.val] w fun e w' => e = .returned (.bool (opForm o)) ∧ Below w.heap.size w w' := by
  unfold OpV.val
  obtain ⟨z1, z2, z3⟩ := ho
  cases t1 : inB o.kind 1 3 with
  | false =>
    have E : opForm o = false := by simp [opForm, t1]
    go_enter Try.func29, Try.ntmps29
    go_wp2_with (first | (go_at_call 56; refine (l1In_any _ _ _ _).mono ?_; rintro e w' ⟨rfl, rfl⟩) | (go_at_call 53; refine (l11Name_any _ _ (by assumption)).mono ?_; rintro e w' ⟨rfl, rfl⟩))
    go_ret
    exact ⟨ret_bool E.symm, (Below.refl _ _).alloc (Nat.le_refl _) _⟩
  | true =>
  cases t2 : nmOk o.name with
  | false =>
    have E : opForm o = false := by simp [opForm, t2]
    go_enter Try.func29, Try.ntmps29
    go_wp2_with (first | (go_at_call 56; refine (l1In_any _ _ _ _).mono ?_; rintro e w' ⟨rfl, rfl⟩) | (go_at_call 53; refine (l11Name_any _ _ (by assumption)).mono ?_; rintro e w' ⟨rfl, rfl⟩))
    go_ret
    exact ⟨ret_bool E.symm, (Below.refl _ _).alloc (Nat.le_refl _) _⟩
  | true =>
  by_cases t3 : o.kind = 2
  · have E : Hid (opForm o = (nmOk o.to && o.data.toList.isEmpty)) := hid (by rw [opForm, t1, t2, if_pos t3]; rfl)
    cases t4 : nmOk o.to with
    | false =>
      go_enter Try.func29, Try.ntmps29
      go_wp2_with (first | (go_at_call 56; refine (l1In_any _ _ _ _).mono ?_; rintro e w' ⟨rfl, rfl⟩) | (go_at_call 53; refine (l11Name_any _ _ (by assumption)).mono ?_; rintro e w' ⟨rfl, rfl⟩))
      go_ret
      exact ⟨ret_bool (by rw [E.out, t4]; rfl), (Below.refl _ _).alloc (Nat.le_refl _) _⟩
    | true =>
      go_enter Try.func29, Try.ntmps29
      go_wp2_with (first | (go_at_call 56; refine (l1In_any _ _ _ _).mono ?_; rintro e w' ⟨rfl, rfl⟩) | (go_at_call 53; refine (l11Name_any _ _ (by assumption)).mono ?_; rintro e w' ⟨rfl, rfl⟩))
      go_ret
      exact ⟨ret_bool (by rw [E.out, t4]; simp), (Below.refl _ _).alloc (Nat.le_refl _) _⟩
  · have E : Hid (opForm o = (o.to.toList.isEmpty && (decide (o.kind = 1) || o.data.toList.isEmpty))) := hid (by rw [opForm, t1, t2, if_neg t3]; rfl)
    cases t5 : o.to.toList.isEmpty with
    | false =>
      go_enter Try.func29, Try.ntmps29
      go_wp2_with (first | (go_at_call 56; refine (l1In_any _ _ _ _).mono ?_; rintro e w' ⟨rfl, rfl⟩) | (go_at_call 53; refine (l11Name_any _ _ (by assumption)).mono ?_; rintro e w' ⟨rfl, rfl⟩))
      go_ret
      exact ⟨ret_bool (by rw [E.out, t5]; rfl), (Below.refl _ _).alloc (Nat.le_refl _) _⟩
    | true =>
      by_cases t6 : o.kind = 1
      · go_enter Try.func29, Try.ntmps29
        go_wp2_with (first | (go_at_call 56; refine (l1In_any _ _ _ _).mono ?_; rintro e w' ⟨rfl, rfl⟩) | (go_at_call 53; refine (l11Name_any _ _ (by assumption)).mono ?_; rintro e w' ⟨rfl, rfl⟩))
        go_ret
        exact ⟨ret_bool (by rw [E.out, t5]; simp [t6]), (Below.refl _ _).alloc (Nat.le_refl _) _⟩
      · go_enter Try.func29, Try.ntmps29
        go_wp2_with (first | (go_at_call 56; refine (l1In_any _ _ _ _).mono ?_; rintro e w' ⟨rfl, rfl⟩) | (go_at_call 53; refine (l11Name_any _ _ (by assumption)).mono ?_; rintro e w' ⟨rfl, rfl⟩))
        go_ret
        exact ⟨ret_bool (by rw [E.out, t5]; simp [t6]), (Below.refl _ _).alloc (Nat.le_refl _) _⟩
end Go.Proofs.Ytcchpeebhkiacaa
