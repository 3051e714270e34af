/- strings.Cut at a separator of one byte, and readCat. -/
import Derived.Test.YtcpphobokdkkeaaDoorLC
import Derived.Test.YtcpphobokdkkeaaDoorLO
import Derived.Lib.Bytealg
import Derived.Lib.IndexLaws
namespace Go.Proofs.YtcpphobokdkkeaaDoor
open Go.RowKit Go.Deep

set_option maxRecDepth 100000 in
set_option maxHeartbeats 1000000 in
theorem indexByte_any (s : ByteArray) (c : UInt8) (w : World) :
    Calls Tryd.prog 85 #[.string s, .int .u8 c.toNat] w fun e w' => e = .returned (.int .i64 (Lib.indexByte s.data.toList c)) ∧ w' = w := by
  go_enter Tryd.func85, Tryd.ntmps85
  go_wp2_with fail
  rw [run_callFunc_extern Tryd.func89 (by kernel_rfl) (by kernel_rfl) (by kernel_rfl) (e := Extern.BytealgIndexByte.indexByte) (by kernel_rfl), Lib.run_indexByteString]
  simp only [Result.andThen]
  rw [Oper.upon_value]
  go_wp2
  go_ret
  exact ⟨rfl, rfl⟩

set_option maxRecDepth 100000 in
set_option maxHeartbeats 1000000 in
theorem index_any (s : ByteArray) (c : UInt8) (w : World) :
    Calls Tryd.prog 82 #[.string s, .string ⟨#[c]⟩] w fun e w' => e = .returned (.int .i64 (Lib.indexByte s.data.toList c)) ∧ w' = w := by
  cases hb : ([c] == s.toList) with
  | true =>
    have e1 : s.data.toList = [c] := by
      have : [c] = s.toList := by simpa using hb
      rw [← ByteArray.toList_eq, ← this]
    go_enter Tryd.func82, Tryd.ntmps82
    go_wp2
    go_ret
    rw [e1]
    exact ⟨by simp [Lib.indexByte], rfl⟩
  | false =>
    go_enter Tryd.func82, Tryd.ntmps82
    go_wp2_with (go_at_call 85; refine (indexByte_any s c w).mono ?_; rintro e w' ⟨rfl, rfl⟩)
    go_ret
    exact ⟨rfl, rfl⟩

theorem indexByte_cut (L : List UInt8) (c : UInt8) : (Lib.indexByte L c = -1 ∧ cutL c L = (L, [], false)) ∨ (∃ k : Nat, Lib.indexByte L c = k ∧ k < L.length ∧ cutL c L = (L.take k, L.drop (k + 1), true)) := by
  have hge := Lib.indexByte_ge L c
  by_cases h : Lib.indexByte L c = -1
  · exact .inl ⟨h, cutL_miss c L (fun j _ => Lib.indexByte_none h j)⟩
  · obtain ⟨k, hk⟩ : ∃ k : Nat, Lib.indexByte L c = k := ⟨(Lib.indexByte L c).toNat, by omega⟩
    obtain ⟨h1, h2⟩ := Lib.indexByte_some hk
    have hlt : k < L.length := by
      by_cases e : k < L.length
      · exact e
      · rw [List.getElem?_eq_none (by omega)] at h1; simp at h1
    exact .inr ⟨k, hk, hlt, cutL_hit c k L h2 h1⟩

set_option maxRecDepth 100000 in
set_option maxHeartbeats 1000000 in
theorem cutLite_any (s : ByteArray) (c : UInt8) (w : World) (hn : s.size ≤ maxLen) :
    Calls Tryd.prog 76 #[.string s, .string ⟨#[c]⟩] w fun e w' => e = .returned (cutV c s.data.toList) ∧ Below w.heap.size w w' := by
  unfold maxLen at hn
  have HI := index_any s c w
  rcases indexByte_cut s.data.toList c with ⟨hi, hc⟩ | ⟨k, hi, hk, hc⟩
  · rw [hi] at HI
    go_enter Tryd.func76, Tryd.ntmps76
    go_wp2_with (go_at_call 82; refine HI.mono ?_; rintro e w' ⟨rfl, rfl⟩)
    exact bodyPost_ret (v := cutV c s.data.toList) (by simp [results, Tryd.results76, go_sem, cutV, hc]) rfl ⟨rfl, Below.refl _ _⟩
  · rw [hi] at HI
    have hk' : k < s.size := by simpa using hk
    have hki : (k : Int) < (s.size : Int) := by omega
    go_enter Tryd.func76, Tryd.ntmps76
    go_wp2_with fail
    refine HI.mono ?_
    rintro e w' ⟨rfl, rfl⟩
    clear HI
    go_wp2_with fail
    go_quiet (fail)
    go_wp2
    exact bodyPost_ret (v := cutV c s.data.toList) (by simp [results, Tryd.results76, go_sem, cutV, hc, ext_take, ext_drop]) rfl ⟨rfl, below_drewN (Below.refl _ _) _⟩

set_option maxRecDepth 100000 in
set_option maxHeartbeats 1000000 in
theorem cut_any (s : ByteArray) (c : UInt8) (w : World) (hn : s.size ≤ maxLen) :
    Calls Tryd.prog 70 #[.string s, .string ⟨#[c]⟩] w fun e w' => e = .returned (cutV c s.data.toList) ∧ Below w.heap.size w w' := by
  go_enter Tryd.func70, Tryd.ntmps70
  go_wp2_with fail
  refine (cutLite_any s c w hn).mono ?_
  rintro e w' ⟨rfl, hb⟩
  unfold cutV
  go_wp2
  exact bodyPost_ret (v := cutV c s.data.toList) (by simp [results, Tryd.results70, go_sem, cutV]) rfl ⟨rfl, hb⟩

/-- what reading a category gives back -/
def catV (p : List UInt8) : Value := .tuple #[.agg #[.int .i64 (if catOkL p = true then (catL p).1 else 0), .int .i64 (if catOkL p = true then (catL p).2 else 0)], .bool (catOkL p)]

set_option maxRecDepth 100000 in
set_option maxHeartbeats 1000000 in
theorem readCat_any (s : ByteArray) (w : World) (hn : s.size ≤ maxLen) :
    Calls Tryd.prog 71 #[.string s] w fun e w' => e = .returned (catV s.data.toList) ∧ Below w.heap.size w w' := by
  have L0 := (Below.refl _ w).alloc (Nat.le_refl _) (.cells #[.int .i64 0, .int .i64 0] 68)
  have A0 := Blk.new w (.cells #[.int .i64 0, .int .i64 0] 68)
  have hn' : s.data.toList.length ≤ maxLen := by simpa using hn
  have s1 : ∀ v, (cutL 58 s.data.toList).1 = v → (⟨v.toArray⟩ : ByteArray).size ≤ maxLen := fun v hv => by
    have := cutL_len1 58 s.data.toList
    subst hv
    simp [ByteArray.size]; omega
  have s2 : ∀ v, (cutL 58 s.data.toList).2.1 = v → (⟨v.toArray⟩ : ByteArray).size ≤ maxLen := fun v hv => by
    have := cutL_len2 58 s.data.toList
    subst hv
    simp [ByteArray.size]; omega
  go_enter Tryd.func71, Tryd.ntmps71
  go_wp2_with fail
  refine (cut_any s 58 _ hn).mono ?_
  rintro e w1 ⟨rfl, hb1⟩
  have E1 : Below w.heap.size w w1 := L0.trans (hb1.mono (by simp))
  have A1 := A0.below hb1
  unfold cutV
  go_wp2_with fail
  refine (readDecimal_any _ _ (s1 _ rfl)).mono ?_
  rintro e w2 ⟨rfl, hb2⟩
  have E2 : Below w.heap.size w w2 := E1.trans (hb2.mono E1.size)
  have A2 := A1.below hb2
  unfold numV
  go_wp2_with fail
  refine (readDecimal_any _ _ (s2 _ rfl)).mono ?_
  rintro e w3 ⟨rfl, hb3⟩
  have E3 : Below w.heap.size w w3 := E2.trans (hb3.mono E2.size)
  have A3 := A2.below hb3
  unfold numV
  obtain ⟨x1, x2⟩ := A3.two
  have f1 := A3.frozen2 0
  have f2 := A3.frozen2 1
  clear A0 A1 A2 hb1 hb2 hb3 E1 E2 L0
  have hv : catV s.data.toList = .tuple #[.agg #[.int .i64 (if (okD (cutL 58 s.data.toList).1 && okD (cutL 58 s.data.toList).2.1) = true then numL (cutL 58 s.data.toList).1 else 0), .int .i64 (if (okD (cutL 58 s.data.toList).1 && okD (cutL 58 s.data.toList).2.1) = true then numL (cutL 58 s.data.toList).2.1 else 0)], .bool (okD (cutL 58 s.data.toList).1 && okD (cutL 58 s.data.toList).2.1)] := rfl
  generalize okD (cutL 58 s.data.toList).1 = o1 at *
  generalize okD (cutL 58 s.data.toList).2.1 = o2 at *
  generalize numL (cutL 58 s.data.toList).1 = n1 at *
  generalize numL (cutL 58 s.data.toList).2.1 = n2 at *
  cases o1 with
  | false =>
    go_wp2
    exact bodyPost_ret (v := catV s.data.toList) (by simp [results, Tryd.results71, go_sem, hv, x1, x2]) rfl ⟨rfl, (E3.setCell (Nat.le_refl _) _).setCell (Nat.le_refl _) _⟩
  | true =>
    cases o2 with
    | false =>
      go_wp2
      exact bodyPost_ret (v := catV s.data.toList) (by simp [results, Tryd.results71, go_sem, hv, x1, x2]) rfl ⟨rfl, (E3.setCell (Nat.le_refl _) _).setCell (Nat.le_refl _) _⟩
    | true =>
      go_wp2
      exact bodyPost_ret (v := catV s.data.toList) (by simp [results, Tryd.results71, go_sem, hv, x1, x2]) rfl ⟨rfl, (E3.setCell (Nat.le_refl _) _).setCell (Nat.le_refl _) _⟩
end Go.Proofs.YtcpphobokdkkeaaDoor
