/- Texts of data: l3Plain of the model and isData of the program answer plain functions. -/
import Derived.Test.YtaaeeaknjlammaaGreatDoorZA
import Derived.Lib.ConvBytes
namespace Go.Proofs.YtaaeeaknjlammaaGreatDoor
open Go.RowKit Go.Deep

def byteOk (b : UInt8) : Bool := decide (32 ≤ b.toNat) && decide (b.toNat ≤ 126)
def plainB (s : ByteArray) (most : Int) : Bool := s.data.toList.all byteOk && decide ((s.size : Int) ≤ most)

theorem plain_at {s : ByteArray} {most : Int} {k : Nat} (h : k < s.size) (hb : byteOk s[k] = false) : plainB s most = false := by
  have : s.data.toList.all byteOk = false := by
    rw [List.all_eq_false]
    exact ⟨s[k], Array.getElem_mem_toList h, by simp [hb]⟩
  simp [plainB, this]
theorem plain_all {s : ByteArray} {most : Int} (h : ∀ (k : Nat) (hk : k < s.size), byteOk s[k] = true) : plainB s most = decide ((s.size : Int) ≤ most) := by
  have : s.data.toList.all byteOk = true := by
    rw [List.all_eq_true]
    intro b hb
    obtain ⟨k, hk, rfl⟩ := List.getElem_of_mem hb
    have hk' : k < s.size := by simpa using hk
    have := h k hk'
    have e : s[k] = s.data.toList[k] := rfl
    rw [e] at this
    exact this
  simp [plainB, this]
theorem byteOk_lo {b : UInt8} (h : (b.toNat : Int) < 32) : byteOk b = false := by
  have : ¬ 32 ≤ b.toNat := by omega
  simp [byteOk, this]
theorem byteOk_hi {b : UInt8} (h : 126 < (b.toNat : Int)) : byteOk b = false := by
  have : ¬ b.toNat ≤ 126 := by omega
  simp [byteOk, this]
theorem byteOk_yes {b : UInt8} (h1 : 32 ≤ (b.toNat : Int)) (h2 : (b.toNat : Int) ≤ 126) : byteOk b = true := by
  have e1 : 32 ≤ b.toNat := by omega
  have e2 : b.toNat ≤ 126 := by omega
  simp [byteOk, e1, e2]

set_option maxHeartbeats 1000000 in
theorem l3Plain_any (s : ByteArray) (most : Int) (w : World) (hn : s.size ≤ maxLen) :
    Calls Tryz.prog 73 #[.string s, .int .i64 most] w fun e w' => e = .returned (.bool (plainB s most)) ∧ w' = w := by
  unfold maxLen at hn
  go_enter Tryz.func73, Tryz.ntmps73
  go_wp2
  go_loop [5] (fun i => ∃ k : Nat, k ≤ s.size ∧ i = .int .i64 k ∧ (∀ (j : Nat) (hj : j < s.size), j < k → byteOk s[j] = true)) (fun i => s.size - (intOf i).toNat)
  case atStart => exact ⟨0, Nat.zero_le _, rfl, fun j _ hj => by omega⟩
  case round =>
    obtain ⟨k, hk, rfl, hall⟩ := hrel
    have HA : Hid (∀ (j : Nat) (hj : j < s.size), j < k → byteOk s[j] = true) := hall
    clear hall
    by_cases hlt : k < s.size
    · have hki : (k : Int) < (s.size : Int) := by omega
      go_wp2
      · go_ret
        rename_i h1 h2 _
        refine ⟨ret_bool (plain_at hlt ?_).symm, rfl⟩
        rcases h2 with h2 | h2
        · exact byteOk_lo h2
        · exact byteOk_hi h2
      · rename_i h1 h2
        go_round
        case rel =>
          refine ⟨k + 1, by omega, by go_num, fun j hj hjk => ?_⟩
          by_cases e : j = k
          · subst e; exact byteOk_yes h2.1 h2.2
          · exact HA.out j hj (by omega)
        case measure => simp [intOf]; omega
      · go_ret
        rename_i h1
        exact ⟨ret_bool (plain_at hlt (byteOk_lo h1)).symm, rfl⟩
    · have hki : ¬ (k : Int) < (s.size : Int) := by omega
      go_wp2
      go_ret
      exact ⟨ret_bool (plain_all (fun j hj => HA.out j hj (by omega))).symm, rfl⟩

theorem bytesWorld_below (w : World) (e : TypeId) (s : ByteArray) : Below w.heap.size w (Lib.bytesWorld w e s) :=
  ⟨rfl, rfl, rfl, by rw [Lib.bytesWorld_size]; omega, fun k hk => Lib.bytesWorld_at_old w e s k hk⟩

set_option maxHeartbeats 1000000 in
theorem isData_any (s : ByteArray) (w : World) (hn : s.size ≤ maxLen) :
    Calls Tryz.prog 100 #[.string s] w fun e w' => e = .returned (.bool (plainB s 40)) ∧ Below w.heap.size w w' := by
  unfold maxLen at hn
  by_cases h40 : 40 < s.size
  · have h40' : (40 : Int) < (s.size : Int) := by omega
    go_enter Tryz.func100, Tryz.ntmps100
    go_wp2
    go_ret
    have : ¬ (s.size : Int) ≤ 40 := by omega
    exact ⟨ret_bool (by simp [plainB, this]), Below.refl _ _⟩
  · have h40' : (s.size : Int) ≤ 40 := by omega
    have kc := fun (w : World) (s : ByteArray) => Lib.run_convert_string_bytes (P := Tryz.prog) w 9 76 5 s Tryz.underlying9 Tryz.underlying76 Tryz.underlying5
    go_enter Tryz.func100, Tryz.ntmps100
    go_wp2_with fail
    have hB := bytesWorld_below w 5 s
    have hcell : ∀ (j : Nat) (hj : j < s.size), (Lib.bytesWorld w 5 s).cell? ⟨w.heap.size, j, none⟩ = some (.int .u8 (s[j].toNat : Int)) := fun j hj => by
      rw [Lib.bytesWorld_cell w 5 s j hj]
      have e : s.data.toList.getD j 0 = s[j] := by
        have hj' : j < s.data.toList.length := by simpa using hj
        rw [List.getD_eq_getElem?_getD, List.getElem?_eq_getElem hj']
        rfl
      rw [e]
    generalize Lib.bytesWorld w 5 s = W at *
    generalize grownCap w s.size 0 5 = cp at *
    go_loop [11] (fun i => ∃ k : Nat, k ≤ s.size ∧ i = .int .i64 k ∧ (∀ (j : Nat) (hj : j < s.size), j < k → byteOk s[j] = true)) (fun i => s.size - (intOf i).toNat)
    case atStart => exact ⟨0, Nat.zero_le _, rfl, fun j _ hj => by omega⟩
    case round =>
      obtain ⟨k, hk, rfl, hall⟩ := hrel
      have HA : Hid (∀ (j : Nat) (hj : j < s.size), j < k → byteOk s[j] = true) := hall
      clear hall
      by_cases hlt : k < s.size
      · have hki : (k : Int) < (s.size : Int) := by omega
        have hc := hcell k hlt
        clear hcell
        go_wp2
        · go_ret
          rename_i h1 h2 _
          refine ⟨ret_bool (plain_at hlt ?_).symm, hB⟩
          rcases h2 with h2 | h2
          · exact byteOk_lo h2
          · exact byteOk_hi h2
        · rename_i h1 h2
          go_round
          case rel =>
            refine ⟨k + 1, by omega, by go_num, fun j hj hjk => ?_⟩
            by_cases e : j = k
            · subst e; exact byteOk_yes h2.1 h2.2
            · exact HA.out j hj (by omega)
          case measure => simp [intOf]; omega
        · go_ret
          rename_i h1
          exact ⟨ret_bool (plain_at hlt (byteOk_lo h1)).symm, hB⟩
      · have hki : ¬ (k : Int) < (s.size : Int) := by omega
        clear hcell
        go_wp2
        go_ret
        exact ⟨ret_bool (by rw [plain_all (fun j hj => HA.out j hj (by omega))]; simpa using h40'), hB⟩
end Go.Proofs.YtaaeeaknjlammaaGreatDoor
