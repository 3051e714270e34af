/- readDecimal of the program. -/
import Derived.Test.YtcpphobokdkkeaaDoorLB
namespace Go.Proofs.YtcpphobokdkkeaaDoor
open Go.RowKit Go.Deep

theorem bytesWorld_below (w : World) (e : TypeId) (s : ByteArray) : Below w.heap.size w (Lib.bytesWorld w e s) :=
  ⟨rfl, rfl, rfl, by rw [Lib.bytesWorld_size]; omega, fun k hk => Lib.bytesWorld_at_old w e s k hk⟩
theorem empty_size (s : ByteArray) : s.toList.isEmpty = decide (s.size = 0) := by
  rw [ByteArray.toList_eq]
  cases s with
  | mk a => cases a with
    | mk l => cases l <;> simp [ByteArray.size]

set_option maxRecDepth 100000 in
set_option maxHeartbeats 2000000 in
theorem readDecimal_any (s : ByteArray) (w : World) (hn : s.size ≤ maxLen) :
    Calls Tryd.prog 63 #[.string s] w fun e w' => e = .returned (numV s.data.toList) ∧ Below w.heap.size w w' := by
  unfold maxLen at hn
  have kc := fun (w : World) (s : ByteArray) => Lib.run_convert_string_bytes (P := Tryd.prog) w 9 66 5 s Tryd.underlying9 Tryd.underlying66 Tryd.underlying5
  have he := empty_size s
  by_cases h1 : 1 ≤ s.size
  rotate_left
  · have h1' : s.size = 0 := by omega
    have e := okD_short h1
    rw [h1'] at he
    simp only [decide_true] at he
    go_enter Tryd.func63, Tryd.ntmps63
    go_wp2
    exact bodyPost_ret (v := numV s.data.toList) (by simp [results, Tryd.results63, go_sem, numV, numL, e]) rfl ⟨rfl, Below.refl _ _⟩
  have hn0 : ¬ s.size = 0 := by omega
  simp only [hn0, decide_false] at he
  by_cases h2 : s.size ≤ 10
  rotate_left
  · have h2' : (10 : Int) < (s.size : Int) := by omega
    have e := okD_long h2
    go_enter Tryd.func63, Tryd.ntmps63
    go_wp2
    exact bodyPost_ret (v := numV s.data.toList) (by simp [results, Tryd.results63, go_sem, numV, numL, e]) rfl ⟨rfl, Below.refl _ _⟩
  have h2' : ¬ (10 : Int) < (s.size : Int) := by omega
  have hp : 0 < s.size := by omega
  have hp' : (0 : Int) < (s.size : Int) := by omega
  by_cases h3 : s.size ≤ 1
  · have h3' : ¬ (1 : Int) < (s.size : Int) := by omega
    have hyes := okD_yes (s := s) h1 h2 (fun _ => .inr h3)
    go_enter Tryd.func63, Tryd.ntmps63
    go_wp2_with fail
    have hB := bytesWorld_below w 5 s
    have hcell : ∀ (j : Nat) (hj : j < s.size), (Lib.bytesWorld w 5 s).cell? ⟨w.heap.size, j, none⟩ = some (.int .u8 (s[j].toNat : Int)) := fun j hj => by
      rw [Lib.bytesWorld_cell w 5 s j hj]
      have e : s.data.toList.getD j 0 = s[j] := by
        rw [List.getD_eq_getElem?_getD, byte_at s j hj]
        rfl
      rw [e]
    generalize Lib.bytesWorld w 5 s = W at *
    generalize grownCap w s.size 0 5 = cp at *
    go_loop [4, 27] (fun n i => ∃ k : Nat, k ≤ s.size ∧ i = .int .i64 k ∧ n = .int .i64 (valL (s.data.toList.take k)) ∧ (∀ (j : Nat) (hj : j < s.size), j < k → digitB s[j] = true)) (fun _ i => s.size - (intOf i).toNat)
    case atStart => exact ⟨0, Nat.zero_le _, rfl, rfl, fun j _ hj => by omega⟩
    case round =>
      obtain ⟨k, hk, rfl, rfl, hall⟩ := hrel
      have hv := take_lt s k hk h2 hall
      have HV : Hid (k < s.size → ∀ h : k < s.size, digitB s[k] = true → (valL (s.data.toList.take (k + 1)) : Int) = (valL (s.data.toList.take k) : Int) * 10 + ((s[k].toNat : Int) - 48)) := fun _ h hd => take_val s k h hd
      have HE : Hid (k = s.size → s.data.toList.take k = s.data.toList) := fun e => by rw [e]; exact List.take_of_length_le (by simp)
      have HA : Hid (∀ (j : Nat) (hj : j < s.size), j < k → digitB s[j] = true) := hall
      clear hall
      generalize hg : valL (s.data.toList.take k) = v at *
      have HG : Hid (valL (s.data.toList.take k) = v) := hg
      clear hg
      by_cases hlt : k < s.size
      · have hki : (k : Int) < (s.size : Int) := by omega
        have hc := hcell k hlt
        clear hcell
        by_cases d1 : (s[k].toNat : Int) < 48
        · go_wp2
          exact bodyPost_ret (v := numV s.data.toList) (by simp [results, Tryd.results63, go_sem, numV, numL, okD_digit hlt (digit_lo d1)]) rfl ⟨rfl, hB⟩
        · by_cases d2 : 57 < (s[k].toNat : Int)
          · go_wp2
            exact bodyPost_ret (v := numV s.data.toList) (by simp [results, Tryd.results63, go_sem, numV, numL, okD_digit hlt (digit_hi d2)]) rfl ⟨rfl, hB⟩
          · have hd := digit_yes d1 d2
            have hb256 : (s[k].toNat : Int) < 256 := by have := s[k].toNat_lt; omega
            go_wp2
            go_round
            case rel =>
              refine ⟨k + 1, by omega, by go_num, ?_, fun j hj hjk => ?_⟩
              · rw [HV.out hlt hlt hd]
              · by_cases e : j = k
                · subst e; exact hd
                · exact HA.out j hj (by omega)
            case measure => simp [intOf]; omega
      · have hki : ¬ (k : Int) < (s.size : Int) := by omega
        have ek : k = s.size := by omega
        have e := hyes (fun j hj => HA.out j hj (by omega))
        have e2 := HE.out ek
        have e3 : valL s.data.toList = v := by rw [← e2]; exact HG.out
        clear hyes HA HE HG HV hcell
        go_wp2
        exact bodyPost_ret (v := numV s.data.toList) (by simp [results, Tryd.results63, go_sem, numV, numL, e, e3]) rfl ⟨rfl, hB⟩
  · have h3' : (1 : Int) < (s.size : Int) := by omega
    by_cases hz : (s[0].toNat : Int) = 48
    · have e := okD_zero hp (byte_eq (c := 48) hz) h3
      go_enter Tryd.func63, Tryd.ntmps63
      go_wp2
      exact bodyPost_ret (v := numV s.data.toList) (by simp [results, Tryd.results63, go_sem, numV, numL, e]) rfl ⟨rfl, Below.refl _ _⟩
    · have hyes := okD_yes (s := s) h1 h2 (fun _ => .inl (byte_ne (c := 48) hz))
      go_enter Tryd.func63, Tryd.ntmps63
      go_wp2_with fail
      have hB := bytesWorld_below w 5 s
      have hcell : ∀ (j : Nat) (hj : j < s.size), (Lib.bytesWorld w 5 s).cell? ⟨w.heap.size, j, none⟩ = some (.int .u8 (s[j].toNat : Int)) := fun j hj => by
        rw [Lib.bytesWorld_cell w 5 s j hj]
        have e : s.data.toList.getD j 0 = s[j] := by
          rw [List.getD_eq_getElem?_getD, byte_at s j hj]
          rfl
        rw [e]
      generalize Lib.bytesWorld w 5 s = W at *
      generalize grownCap w s.size 0 5 = cp at *
      go_loop [4, 27] (fun n i => ∃ k : Nat, k ≤ s.size ∧ i = .int .i64 k ∧ n = .int .i64 (valL (s.data.toList.take k)) ∧ (∀ (j : Nat) (hj : j < s.size), j < k → digitB s[j] = true)) (fun _ i => s.size - (intOf i).toNat)
      case atStart => exact ⟨0, Nat.zero_le _, rfl, rfl, fun j _ hj => by omega⟩
      case round =>
        obtain ⟨k, hk, rfl, rfl, hall⟩ := hrel
        have hv := take_lt s k hk h2 hall
        have HV : Hid (k < s.size → ∀ h : k < s.size, digitB s[k] = true → (valL (s.data.toList.take (k + 1)) : Int) = (valL (s.data.toList.take k) : Int) * 10 + ((s[k].toNat : Int) - 48)) := fun _ h hd => take_val s k h hd
        have HE : Hid (k = s.size → s.data.toList.take k = s.data.toList) := fun e => by rw [e]; exact List.take_of_length_le (by simp)
        have HA : Hid (∀ (j : Nat) (hj : j < s.size), j < k → digitB s[j] = true) := hall
        clear hall
        generalize hg : valL (s.data.toList.take k) = v at *
        have HG : Hid (valL (s.data.toList.take k) = v) := hg
        clear hg
        by_cases hlt : k < s.size
        · have hki : (k : Int) < (s.size : Int) := by omega
          have hc := hcell k hlt
          clear hcell
          by_cases d1 : (s[k].toNat : Int) < 48
          · go_wp2
            exact bodyPost_ret (v := numV s.data.toList) (by simp [results, Tryd.results63, go_sem, numV, numL, okD_digit hlt (digit_lo d1)]) rfl ⟨rfl, hB⟩
          · by_cases d2 : 57 < (s[k].toNat : Int)
            · go_wp2
              exact bodyPost_ret (v := numV s.data.toList) (by simp [results, Tryd.results63, go_sem, numV, numL, okD_digit hlt (digit_hi d2)]) rfl ⟨rfl, hB⟩
            · have hd := digit_yes d1 d2
              have hb256 : (s[k].toNat : Int) < 256 := by have := s[k].toNat_lt; omega
              go_wp2
              go_round
              case rel =>
                refine ⟨k + 1, by omega, by go_num, ?_, fun j hj hjk => ?_⟩
                · rw [HV.out hlt hlt hd]
                · by_cases e : j = k
                  · subst e; exact hd
                  · exact HA.out j hj (by omega)
              case measure => simp [intOf]; omega
        · have hki : ¬ (k : Int) < (s.size : Int) := by omega
          have ek : k = s.size := by omega
          have e := hyes (fun j hj => HA.out j hj (by omega))
          have e2 := HE.out ek
          have e3 : valL s.data.toList = v := by rw [← e2]; exact HG.out
          clear hyes HA HE HG HV hcell
          go_wp2
          exact bodyPost_ret (v := numV s.data.toList) (by simp [results, Tryd.results63, go_sem, numV, numL, e, e3]) rfl ⟨rfl, hB⟩
end Go.Proofs.YtcpphobokdkkeaaDoor
