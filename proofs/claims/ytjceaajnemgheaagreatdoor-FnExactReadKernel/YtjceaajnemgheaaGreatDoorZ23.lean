/- readDecimal of the program. -/
import Derived.Test.YtjceaajnemgheaaGreatDoorZ4
import Derived.Test.YtjceaajnemgheaaGreatDoorZ21
import Derived.Test.YtjceaajnemgheaaGreatDoorZ22
import Derived.Lib.Bytealg
import Derived.Lib.IndexLaws
namespace Go.Proofs.YtjceaajnemgheaaGreatDoor
open Go.RowKit Go.Deep

theorem empty_size (s : ByteArray) : s.toList.isEmpty = decide (s.size = 0) := by
  rw [ByteArray.toList_eq]
  cases s with
  | mk a => cases a with
    | mk l => cases l <;> simp [ByteArray.size]

set_option maxRecDepth 100000 in
set_option maxHeartbeats 2000000 in
theorem readDecimal_any (s : ByteArray) (w : World) (hn : s.size ≤ maxLen) :
    Calls Tryz.prog 67 #[.string s] w fun e w' => e = .returned (numV s.data.toList) ∧ Below w.heap.size w w' := by
  unfold maxLen at hn
  have kc := fun (w : World) (s : ByteArray) => Lib.run_convert_string_bytes (P := Tryz.prog) w 9 80 5 s Tryz.underlying9 Tryz.underlying80 Tryz.underlying5
  have he := empty_size s
  by_cases h1 : 1 ≤ s.size
  rotate_left
  · have h1' : s.size = 0 := by omega
    have e := okD_short h1
    rw [h1'] at he
    simp only [decide_true] at he
    go_enter Tryz.func67, Tryz.ntmps67
    go_wp2
    exact bodyPost_ret (v := numV s.data.toList) (by simp [results, Tryz.results67, go_sem, numV, numL, e]) rfl ⟨rfl, Below.refl _ _⟩
  have hn0 : ¬ s.size = 0 := by omega
  simp only [hn0, decide_false] at he
  by_cases h2 : s.size ≤ 10
  rotate_left
  · have h2' : (10 : Int) < (s.size : Int) := by omega
    have e := okD_long h2
    go_enter Tryz.func67, Tryz.ntmps67
    go_wp2
    exact bodyPost_ret (v := numV s.data.toList) (by simp [results, Tryz.results67, go_sem, numV, numL, e]) rfl ⟨rfl, Below.refl _ _⟩
  have h2' : ¬ (10 : Int) < (s.size : Int) := by omega
  have hp : 0 < s.size := by omega
  have hp' : (0 : Int) < (s.size : Int) := by omega
  by_cases h3 : s.size ≤ 1
  · have h3' : ¬ (1 : Int) < (s.size : Int) := by omega
    have hyes := okD_yes (s := s) h1 h2 (fun _ => .inr h3)
    go_enter Tryz.func67, Tryz.ntmps67
    go_wp2_with fail
    have hB := bytesWorld_below w 5 s
    have hcell : ∀ (j : Nat) (hj : j < s.size), (Lib.bytesWorld w 5 s).cell? ⟨w.heap.size, j, none⟩ = some (.int .u8 (s[j].toNat : Int)) := fun j hj => by
      rw [Lib.bytesWorld_cell w 5 s j hj]
      have e : s.data.toList.getD j 0 = s[j] := by
        rw [List.getD_eq_getElem?_getD, byte_at s j hj]
        rfl
      rw [e]
    generalize Lib.bytesWorld w 5 s = W at *
    generalize grownCap w s.size 0 5 = cp at *
    go_loop [4, 27] (fun n i => ∃ k : Nat, k ≤ s.size ∧ i = .int .i64 k ∧ n = .int .i64 (valL (s.data.toList.take k)) ∧ (∀ (j : Nat) (hj : j < s.size), j < k → digitB s[j] = true)) (fun _ i => s.size - (intOf i).toNat)
    case atStart => exact ⟨0, Nat.zero_le _, rfl, rfl, fun j _ hj => by omega⟩
    case round =>
      obtain ⟨k, hk, rfl, rfl, hall⟩ := hrel
      have hv := take_lt s k hk h2 hall
      have HV : Hid (k < s.size → ∀ h : k < s.size, digitB s[k] = true → (valL (s.data.toList.take (k + 1)) : Int) = (valL (s.data.toList.take k) : Int) * 10 + ((s[k].toNat : Int) - 48)) := fun _ h hd => take_val s k h hd
      have HE : Hid (k = s.size → s.data.toList.take k = s.data.toList) := fun e => by rw [e]; exact List.take_of_length_le (by simp)
      have HA : Hid (∀ (j : Nat) (hj : j < s.size), j < k → digitB s[j] = true) := hall
      clear hall
      generalize hg : valL (s.data.toList.take k) = v at *
      have HG : Hid (valL (s.data.toList.take k) = v) := hg
      clear hg
      by_cases hlt : k < s.size
      · have hki : (k : Int) < (s.size : Int) := by omega
        have hc := hcell k hlt
        clear hcell
        by_cases d1 : (s[k].toNat : Int) < 48
        · go_wp2
          exact bodyPost_ret (v := numV s.data.toList) (by simp [results, Tryz.results67, go_sem, numV, numL, okD_digit hlt (digit_lo d1)]) rfl ⟨rfl, hB⟩
        · by_cases d2 : 57 < (s[k].toNat : Int)
          · go_wp2
            exact bodyPost_ret (v := numV s.data.toList) (by simp [results, Tryz.results67, go_sem, numV, numL, okD_digit hlt (digit_hi d2)]) rfl ⟨rfl, hB⟩
          · have hd := digit_yes d1 d2
            have hb256 : (s[k].toNat : Int) < 256 := by have := s[k].toNat_lt; omega
            go_wp2
            go_round
            case rel =>
              refine ⟨k + 1, by omega, by go_num, ?_, fun j hj hjk => ?_⟩
              · rw [HV.out hlt hlt hd]
              · by_cases e : j = k
                · subst e; exact hd
                · exact HA.out j hj (by omega)
            case measure => simp [intOf]; omega
      · have hki : ¬ (k : Int) < (s.size : Int) := by omega
        have ek : k = s.size := by omega
        have e := hyes (fun j hj => HA.out j hj (by omega))
        have e2 := HE.out ek
        have e3 : valL s.data.toList = v := by rw [← e2]; exact HG.out
        clear hyes HA HE HG HV hcell
        go_wp2
        exact bodyPost_ret (v := numV s.data.toList) (by simp [results, Tryz.results67, go_sem, numV, numL, e, e3]) rfl ⟨rfl, hB⟩
  · have h3' : (1 : Int) < (s.size : Int) := by omega
    by_cases hz : (s[0].toNat : Int) = 48
    · have e := okD_zero hp (byte_eq (c := 48) hz) h3
      go_enter Tryz.func67, Tryz.ntmps67
      go_wp2
      exact bodyPost_ret (v := numV s.data.toList) (by simp [results, Tryz.results67, go_sem, numV, numL, e]) rfl ⟨rfl, Below.refl _ _⟩
    · have hyes := okD_yes (s := s) h1 h2 (fun _ => .inl (byte_ne (c := 48) hz))
      go_enter Tryz.func67, Tryz.ntmps67
      go_wp2_with fail
      have hB := bytesWorld_below w 5 s
      have hcell : ∀ (j : Nat) (hj : j < s.size), (Lib.bytesWorld w 5 s).cell? ⟨w.heap.size, j, none⟩ = some (.int .u8 (s[j].toNat : Int)) := fun j hj => by
        rw [Lib.bytesWorld_cell w 5 s j hj]
        have e : s.data.toList.getD j 0 = s[j] := by
          rw [List.getD_eq_getElem?_getD, byte_at s j hj]
          rfl
        rw [e]
      generalize Lib.bytesWorld w 5 s = W at *
      generalize grownCap w s.size 0 5 = cp at *
      go_loop [4, 27] (fun n i => ∃ k : Nat, k ≤ s.size ∧ i = .int .i64 k ∧ n = .int .i64 (valL (s.data.toList.take k)) ∧ (∀ (j : Nat) (hj : j < s.size), j < k → digitB s[j] = true)) (fun _ i => s.size - (intOf i).toNat)
      case atStart => exact ⟨0, Nat.zero_le _, rfl, rfl, fun j _ hj => by omega⟩
      case round =>
        obtain ⟨k, hk, rfl, rfl, hall⟩ := hrel
        have hv := take_lt s k hk h2 hall
        have HV : Hid (k < s.size → ∀ h : k < s.size, digitB s[k] = true → (valL (s.data.toList.take (k + 1)) : Int) = (valL (s.data.toList.take k) : Int) * 10 + ((s[k].toNat : Int) - 48)) := fun _ h hd => take_val s k h hd
        have HE : Hid (k = s.size → s.data.toList.take k = s.data.toList) := fun e => by rw [e]; exact List.take_of_length_le (by simp)
        have HA : Hid (∀ (j : Nat) (hj : j < s.size), j < k → digitB s[j] = true) := hall
        clear hall
        generalize hg : valL (s.data.toList.take k) = v at *
        have HG : Hid (valL (s.data.toList.take k) = v) := hg
        clear hg
        by_cases hlt : k < s.size
        · have hki : (k : Int) < (s.size : Int) := by omega
          have hc := hcell k hlt
          clear hcell
          by_cases d1 : (s[k].toNat : Int) < 48
          · go_wp2
            exact bodyPost_ret (v := numV s.data.toList) (by simp [results, Tryz.results67, go_sem, numV, numL, okD_digit hlt (digit_lo d1)]) rfl ⟨rfl, hB⟩
          · by_cases d2 : 57 < (s[k].toNat : Int)
            · go_wp2
              exact bodyPost_ret (v := numV s.data.toList) (by simp [results, Tryz.results67, go_sem, numV, numL, okD_digit hlt (digit_hi d2)]) rfl ⟨rfl, hB⟩
            · have hd := digit_yes d1 d2
              have hb256 : (s[k].toNat : Int) < 256 := by have := s[k].toNat_lt; omega
              go_wp2
              go_round
              case rel =>
                refine ⟨k + 1, by omega, by go_num, ?_, fun j hj hjk => ?_⟩
                · rw [HV.out hlt hlt hd]
                · by_cases e : j = k
                  · subst e; exact hd
                  · exact HA.out j hj (by omega)
              case measure => simp [intOf]; omega
        · have hki : ¬ (k : Int) < (s.size : Int) := by omega
          have ek : k = s.size := by omega
          have e := hyes (fun j hj => HA.out j hj (by omega))
          have e2 := HE.out ek
          have e3 : valL s.data.toList = v := by rw [← e2]; exact HG.out
          clear hyes HA HE HG HV hcell
          go_wp2
          exact bodyPost_ret (v := numV s.data.toList) (by simp [results, Tryz.results67, go_sem, numV, numL, e, e3]) rfl ⟨rfl, hB⟩
end Go.Proofs.YtjceaajnemgheaaGreatDoor
namespace Go.Proofs.YtjceaajnemgheaaGreatDoor
open Go.RowKit Go.Deep

set_option maxRecDepth 100000 in
set_option maxHeartbeats 1000000 in
theorem indexByte_any (s : ByteArray) (c : UInt8) (w : World) :
    Calls Tryz.prog 92 #[.string s, .int .u8 c.toNat] w fun e w' => e = .returned (.int .i64 (Lib.indexByte s.data.toList c)) ∧ w' = w := by
  go_enter Tryz.func92, Tryz.ntmps92
  go_wp2_with fail
  rw [run_callFunc_extern Tryz.func107 (by kernel_rfl) (by kernel_rfl) (by kernel_rfl) (e := Extern.BytealgIndexByte.indexByte) (by kernel_rfl), Lib.run_indexByteString]
  simp only [Result.andThen]
  rw [Oper.upon_value]
  go_wp2
  go_ret
  exact ⟨rfl, rfl⟩

set_option maxRecDepth 100000 in
set_option maxHeartbeats 1000000 in
theorem index_any (s : ByteArray) (c : UInt8) (w : World) :
    Calls Tryz.prog 87 #[.string s, .string ⟨#[c]⟩] w fun e w' => e = .returned (.int .i64 (Lib.indexByte s.data.toList c)) ∧ w' = w := by
  cases hb : ([c] == s.toList) with
  | true =>
    have e1 : s.data.toList = [c] := by
      have : [c] = s.toList := by simpa using hb
      rw [← ByteArray.toList_eq, ← this]
    go_enter Tryz.func87, Tryz.ntmps87
    go_wp2
    go_ret
    rw [e1]
    exact ⟨by simp [Lib.indexByte], rfl⟩
  | false =>
    go_enter Tryz.func87, Tryz.ntmps87
    go_wp2_with (go_at_call 92; refine (indexByte_any s c w).mono ?_; rintro e w' ⟨rfl, rfl⟩)
    go_ret
    exact ⟨rfl, rfl⟩

theorem indexByte_cut (L : List UInt8) (c : UInt8) : (Lib.indexByte L c = -1 ∧ cutL c L = (L, [], false)) ∨ (∃ k : Nat, Lib.indexByte L c = k ∧ k < L.length ∧ cutL c L = (L.take k, L.drop (k + 1), true)) := by
  have hge := Lib.indexByte_ge L c
  by_cases h : Lib.indexByte L c = -1
  · exact .inl ⟨h, cutL_miss c L (fun j _ => Lib.indexByte_none h j)⟩
  · obtain ⟨k, hk⟩ : ∃ k : Nat, Lib.indexByte L c = k := ⟨(Lib.indexByte L c).toNat, by omega⟩
    obtain ⟨h1, h2⟩ := Lib.indexByte_some hk
    have hlt : k < L.length := by
      by_cases e : k < L.length
      · exact e
      · rw [List.getElem?_eq_none (by omega)] at h1; simp at h1
    exact .inr ⟨k, hk, hlt, cutL_hit c k L h2 h1⟩

set_option maxRecDepth 100000 in
set_option maxHeartbeats 1000000 in
theorem cutLite_any (s : ByteArray) (c : UInt8) (w : World) (hn : s.size ≤ maxLen) :
    Calls Tryz.prog 76 #[.string s, .string ⟨#[c]⟩] w fun e w' => e = .returned (cutV c s.data.toList) ∧ Below w.heap.size w w' := by
  unfold maxLen at hn
  have HI := index_any s c w
  rcases indexByte_cut s.data.toList c with ⟨hi, hc⟩ | ⟨k, hi, hk, hc⟩
  · rw [hi] at HI
    go_enter Tryz.func76, Tryz.ntmps76
    go_wp2_with (go_at_call 87; refine HI.mono ?_; rintro e w' ⟨rfl, rfl⟩)
    exact bodyPost_ret (v := cutV c s.data.toList) (by simp [results, Tryz.results76, go_sem, cutV, hc]) rfl ⟨rfl, Below.refl _ _⟩
  · rw [hi] at HI
    have hk' : k < s.size := by simpa using hk
    have hki : (k : Int) < (s.size : Int) := by omega
    go_enter Tryz.func76, Tryz.ntmps76
    go_wp2_with fail
    refine HI.mono ?_
    rintro e w' ⟨rfl, rfl⟩
    clear HI
    go_wp2_with fail
    go_quiet (fail)
    go_wp2
    exact bodyPost_ret (v := cutV c s.data.toList) (by simp [results, Tryz.results76, go_sem, cutV, hc, ext_take, ext_drop]) rfl ⟨rfl, below_drewN (Below.refl _ _) _⟩

set_option maxRecDepth 100000 in
set_option maxHeartbeats 1000000 in
theorem cut_any (s : ByteArray) (c : UInt8) (w : World) (hn : s.size ≤ maxLen) :
    Calls Tryz.prog 66 #[.string s, .string ⟨#[c]⟩] w fun e w' => e = .returned (cutV c s.data.toList) ∧ Below w.heap.size w w' := by
  go_enter Tryz.func66, Tryz.ntmps66
  go_wp2_with fail
  refine (cutLite_any s c w hn).mono ?_
  rintro e w' ⟨rfl, hb⟩
  unfold cutV
  go_wp2
  exact bodyPost_ret (v := cutV c s.data.toList) (by simp [results, Tryz.results66, go_sem, cutV]) rfl ⟨rfl, hb⟩
def catV (p : List UInt8) : Value := .tuple #[.agg #[.int .i64 (if catOkL p = true then (catL p).1 else 0), .int .i64 (if catOkL p = true then (catL p).2 else 0)], .bool (catOkL p)]

set_option maxRecDepth 100000 in
set_option maxHeartbeats 1000000 in
theorem readCat_any (s : ByteArray) (w : World) (hn : s.size ≤ maxLen) :
    Calls Tryz.prog 77 #[.string s] w fun e w' => e = .returned (catV s.data.toList) ∧ Below w.heap.size w w' := by
  have L0 := (Below.refl _ w).alloc (Nat.le_refl _) (.cells #[.int .i64 0, .int .i64 0] 58)
  have A0 := Blk.new w (.cells #[.int .i64 0, .int .i64 0] 58)
  have hn' : s.data.toList.length ≤ maxLen := by simpa using hn
  have s1 : ∀ v, (cutL 58 s.data.toList).1 = v → (⟨v.toArray⟩ : ByteArray).size ≤ maxLen := fun v hv => by
    have := cutL_len1 58 s.data.toList
    subst hv
    simp [ByteArray.size]; omega
  have s2 : ∀ v, (cutL 58 s.data.toList).2.1 = v → (⟨v.toArray⟩ : ByteArray).size ≤ maxLen := fun v hv => by
    have := cutL_len2 58 s.data.toList
    subst hv
    simp [ByteArray.size]; omega
  go_enter Tryz.func77, Tryz.ntmps77
  go_wp2_with fail
  refine (cut_any s 58 _ hn).mono ?_
  rintro e w1 ⟨rfl, hb1⟩
  have E1 : Below w.heap.size w w1 := L0.trans (hb1.mono (by simp))
  have A1 := A0.below hb1
  unfold cutV
  go_wp2_with fail
  refine (readDecimal_any _ _ (s1 _ rfl)).mono ?_
  rintro e w2 ⟨rfl, hb2⟩
  have E2 : Below w.heap.size w w2 := E1.trans (hb2.mono E1.size)
  have A2 := A1.below hb2
  unfold numV
  go_wp2_with fail
  refine (readDecimal_any _ _ (s2 _ rfl)).mono ?_
  rintro e w3 ⟨rfl, hb3⟩
  have E3 : Below w.heap.size w w3 := E2.trans (hb3.mono E2.size)
  have A3 := A2.below hb3
  unfold numV
  obtain ⟨x1, x2⟩ := A3.two
  have f1 := A3.frozen2 0
  have f2 := A3.frozen2 1
  clear A0 A1 A2 hb1 hb2 hb3 E1 E2 L0
  have hv : catV s.data.toList = .tuple #[.agg #[.int .i64 (if (okD (cutL 58 s.data.toList).1 && okD (cutL 58 s.data.toList).2.1) = true then numL (cutL 58 s.data.toList).1 else 0), .int .i64 (if (okD (cutL 58 s.data.toList).1 && okD (cutL 58 s.data.toList).2.1) = true then numL (cutL 58 s.data.toList).2.1 else 0)], .bool (okD (cutL 58 s.data.toList).1 && okD (cutL 58 s.data.toList).2.1)] := rfl
  generalize okD (cutL 58 s.data.toList).1 = o1 at *
  generalize okD (cutL 58 s.data.toList).2.1 = o2 at *
  generalize numL (cutL 58 s.data.toList).1 = n1 at *
  generalize numL (cutL 58 s.data.toList).2.1 = n2 at *
  cases o1 with
  | false =>
    go_wp2
    exact bodyPost_ret (v := catV s.data.toList) (by simp [results, Tryz.results77, go_sem, hv, x1, x2]) rfl ⟨rfl, (E3.setCell (Nat.le_refl _) _).setCell (Nat.le_refl _) _⟩
  | true =>
    cases o2 with
    | false =>
      go_wp2
      exact bodyPost_ret (v := catV s.data.toList) (by simp [results, Tryz.results77, go_sem, hv, x1, x2]) rfl ⟨rfl, (E3.setCell (Nat.le_refl _) _).setCell (Nat.le_refl _) _⟩
    | true =>
      go_wp2
      exact bodyPost_ret (v := catV s.data.toList) (by simp [results, Tryz.results77, go_sem, hv, x1, x2]) rfl ⟨rfl, (E3.setCell (Nat.le_refl _) _).setCell (Nat.le_refl _) _⟩
end Go.Proofs.YtjceaajnemgheaaGreatDoor
