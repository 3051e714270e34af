/- keepOk; one change on a shelf. -/
import Derived.Test.YtcchpeebhkiacaaMR
import Derived.Test.YtcchpeebhkiacaaMS
import Derived.Test.YtcchpeebhkiacaaEC
import Derived.Test.YtcchpeebhkiacaaV
namespace Go.Proofs.Ytcchpeebhkiacaa
open Go Go.RowKit Go.Deep Go.Maps

theorem clone_any (s : ByteArray) (w : World) (hn : s.size ≤ 281474976710656) :
    Calls Try.prog 58 #[.string s] w fun e w' => e = .returned (.string s) ∧ Below w.heap.size w w' := by
  have hc := fun v => Go.Proofs.Any.stringslite_Clone Try.cloneA s v hn
  change ∀ v : World, Calls Try.prog 69 #[.string s] v fun e w' => e = .returned (.string s) ∧ Below v.heap.size v w' at hc
  go_enter Try.func58, Try.ntmps58
  go_wp2_with fail
  refine (hc _).mono ?_
  rintro e w1 ⟨rfl, hb⟩
  go_wp2
  go_ret
  exact ⟨rfl, hb⟩

/-- the place ahead -/
def lastK (g : Nat → Int) (k : Nat) : Int := if k = 0 then -1 else g (k - 1)
theorem lastK_next (g : Nat → Int) (k : Nat) : lastK g (k + 1) = g k := by simp [lastK]
theorem last_ok {g : Nat → Int} {m k : Nat} (h : ∀ j, j < k → kpOk g m j = true) : kpOk g m k = (decide (lastK g k < g k) && decide (g k < m)) := by
  unfold kpOk inB lastK
  by_cases e : k = 0
  · subst e
    simp
    by_cases h1 : 0 ≤ g 0 <;> by_cases h2 : g 0 < m <;> simp [*] <;> omega
  · have h0 := (kpOk_in (h (k - 1) (by omega))).1
    rw [if_neg e]
    by_cases h1 : g (k - 1) < g k <;> by_cases h2 : g k < m <;> simp [*] <;> omega
set_option maxRecDepth 100000 in
set_option maxHeartbeats 1000000 in
theorem keepOk_any (ka oa : Option Addr) (n kc m oc : Nat) (g : Nat → Int) (w : World) (hn : n ≤ 1048576) (hk : IntsAt w ka n g) :
    Calls Try.prog 57 #[.slice ka n kc, .slice oa m oc] w fun e w' => e = .returned (.bool (kpAll n g m)) ∧ Below w.heap.size w w' := by
  have HK := hid hk
  clear hk
  go_enter Try.func57, Try.ntmps57
  go_wp2
  go_loopw [5, 10] (fun v i wr => ∃ k : Nat, k ≤ n ∧ i = .int .i64 k ∧ v = .int .i64 (lastK g k) ∧ (∀ j, j < k → kpOk g m j = true) ∧ Below w.heap.size w wr) (fun _ i _ => n - (intOf i).toNat)
  case atStart => exact ⟨0, Nat.zero_le _, rfl, rfl, fun j hj => absurd hj (Nat.not_lt_zero j), Below.refl _ _⟩
  case round =>
    obtain ⟨k, hk, rfl, rfl, hall, hB⟩ := hrel
    have HALL := hid hall
    have EK := hid (last_ok hall)
    have EN := hid (lastK_next g k)
    clear hall
    generalize lastK g k = L at *
    by_cases hlt' : k < n
    · obtain ⟨b, off, ea, hlt, hcc⟩ := (HK.out.below hB) (by omega)
      have g0 := hcc k hlt'
      subst ea
      have i0 : (0 : Int) ≤ (k : Int) := by omega
      have i1 : (k : Int) < (n : Int) := by omega
      clear hcc
      by_cases h1 : L < g k
      · have h1' : ¬ g k ≤ L := by omega
        by_cases h2 : g k < m
        · have h2' : ¬ (m : Int) ≤ g k := by omega
          have EY : Hid (kpOk g m k = true) := hid (by rw [EK.out]; simp [h1, h2])
          go_wp2
          go_roundw
          case rel => exact ⟨k + 1, by omega, by go_num, by rw [EN.out], fun j hj => by
            by_cases e : j = k
            · rw [e]; exact EY.out
            · exact HALL.out j (by omega), hB⟩
          case measure => simp [intOf]; omega
        · have h2' : (m : Int) ≤ g k := by omega
          have E : Hid (kpAll n g m = false) := hid (kpAll_no hlt' (by rw [EK.out]; simp [h2]))
          go_wp2
          go_ret
          exact ⟨ret_bool E.out.symm, hB⟩
      · have h1' : g k ≤ L := by omega
        have E : Hid (kpAll n g m = false) := hid (kpAll_no hlt' (by rw [EK.out]; simp [h1]))
        go_wp2
        go_ret
        exact ⟨ret_bool E.out.symm, hB⟩
    · have E : Hid (kpAll n g m = true) := hid (List.all_eq_true.2 fun j hj => HALL.out j (by have := List.mem_range.1 hj; omega))
      go_wp2
      go_ret
      exact ⟨ret_bool E.out.symm, hB⟩
theorem doF_same {M : List FileV} {o : OpV} (k : o.kind ≠ 1) (h : lookL M (key o.name) = none) : (doF M.length (fileAt M) o).1 = M := by
  rw [doF, if_neg k, lookF_eq, h]
  exact map_fileAt M
/-- one change -/
structure Chg (o : OpV) (w : World) (B c n q : Nat) (M : List FileV) (ty fd dn : Nat) (found : Bool) : Prop where
  mf : ∀ (v : Value) (W : World), (method 252 ty v "loop.example/g00272/impl.finds").run Try.prog W = .ok (fd, v) W
  md : ∀ (v : Value) (W : World), (method 252 ty v "loop.example/g00272/impl.do").run Try.prog W = .ok (dn, v) W
  ch : ∀ W0, Calls Try.prog 48 #[o.val] W0 fun e w' => e = .returned (.tuple #[.iface ty o.val, .bool true]) ∧ Below W0.heap.size W0 w'
  fi : ∀ W, Below w.heap.size w W → Calls Try.prog fd #[o.val, .map (some c)] W fun e w' => e = .returned (.bool found) ∧ Below W.heap.size W w'
  go : found = true → ∀ W, Below w.heap.size w W → Calls Try.prog dn #[o.val, .map (some c)] W fun e w' => e = .returned (.tuple #[]) ∧ SL w' B c (n + 1) (q + 1) (doF M.length (fileAt M) o).1 ∧ Below B W w'
  no : found = false → (doF M.length (fileAt M) o).1 = M
theorem chg_any (o : OpV) {w : World} {B c n q : Nat} {M : List FileV} (p : PreD o w B c n q M) (hf : opForm o = true) : ∃ found, Chg o w B c n q M 98 113 112 found ∨ Chg o w B c n q M 99 117 116 found ∨ Chg o w B c n q M 100 120 119 found := by
  obtain ⟨h, hM, ho, hB, hn, hq, hz, hl⟩ := p
  by_cases k1 : o.kind = 1
  · refine ⟨true, .inl ⟨meth1finds, meth1do, fun W0 => ?_, fun W _ => findsA o c W, fun _ W hW => do1 o (h.below hW) hM.rise k1 ho hq hn (Nat.le_trans hB hW.size) hz, fun h => by cases h⟩⟩
    have h := change1 o W0 ho k1
    rw [hf] at h
    exact h
  by_cases k2 : o.kind = 2
  · refine ⟨(lookL M (key o.name)).isSome, .inr (.inl ⟨meth2finds, meth2do, fun W0 => ?_, fun W hW => ?_, fun hd W hW => do2 o (h.below hW) hM.rise k2 ho hn (Nat.le_trans hB hW.size) hd, fun hd => ?_⟩)⟩
    · have h := change2 o W0 ho k2
      rw [hf] at h
      exact h
    · obtain ⟨m, pv, ps, h'⟩ := h
      have h2 := findsR o c n m W (h'.map.below hW) ho.1
      rw [h'.dom] at h2
      exact h2
    · exact doF_same (by omega) (Option.not_isSome_iff_eq_none.1 (by rw [hd]; decide))
  by_cases k3 : o.kind = 3
  · refine ⟨(lookL M (key o.name)).isSome, .inr (.inr ⟨meth3finds, meth3do, fun W0 => ?_, fun W hW => ?_, fun hd W hW => do3 o (h.below hW) k3 ho (Nat.le_trans hB hW.size) hd, fun hd => ?_⟩)⟩
    · have h := change3 o W0 ho k3
      rw [hf] at h
      exact h
    · obtain ⟨m, pv, ps, h'⟩ := h
      have h2 := findsD o c n m W (h'.map.below hW) ho.1
      rw [h'.dom] at h2
      exact h2
    · exact doF_same (by omega) (Option.not_isSome_iff_eq_none.1 (by rw [hd]; decide))
  · rw [form0 k1 k2 k3] at hf
    cases hf
end Go.Proofs.Ytcchpeebhkiacaa
