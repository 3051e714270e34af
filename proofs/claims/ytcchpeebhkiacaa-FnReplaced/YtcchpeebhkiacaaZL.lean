/- The shelf of files. -/
import Derived.Test.YtcchpeebhkiacaaZE
namespace Go.Proofs.Ytcchpeebhkiacaa
open Go Go.RowKit Go.Deep Go.Maps

/-- what stands under a name, by its bytes -/
def lookK (n : Nat) (f : Nat → FileV) (x : List UInt8) : Option ByteArray := ((List.range n).find? (fun i => decide (key (f i).name = x))).map (fun i => (f i).data)
theorem lookK_succ {k : Nat} {f : Nat → FileV} (hd : ∀ i, i < k → key (f i).name ≠ key (f k).name) : lookK (k + 1) f = setL (lookK k f) (key (f k).name) (f k).data := by
  funext x
  unfold lookK setL
  rw [List.range_succ, List.find?_append]
  by_cases e : key (f k).name = x
  · have h0 : (List.range k).find? (fun i => decide (key (f i).name = x)) = none := List.find?_eq_none.2 (fun i hi => by
      have := hd i (List.mem_range.1 hi)
      rw [e] at this
      simpa using this)
    rw [h0, if_pos e]
    simp [e]
  · rw [if_neg e]
    simp [e]
theorem own_one (w : World) (B : Nat) (x : ByteArray) (hb : B ≤ w.heap.size) : OwnS (w.alloc (.cells #[.string x] 9)) B (.slice (some ⟨w.heap.size, 0, none⟩) 1 1) [x] :=
  ⟨by simp [scells], .inr ⟨w.heap.size, 1, #[.string x], rfl, hb, heap_alloc_new w _, Nat.le_refl _, by decide, rfl, by simp [scells]⟩⟩

set_option maxRecDepth 100000 in
set_option maxHeartbeats 2000000 in
theorem shelfOf_any (l : FileL) (w : World) (hl : l.at w) (hn : l.n ≤ 60) (hd : ∀ i j, i < j → j < l.n → key (l.f i).name ≠ key (l.f j).name) :
    Calls Try.prog 23 #[l.val] w fun e w' => ∃ c m pv ps, e = .returned (.map (some c)) ∧ Shelf w' w.heap.size c l.n 1 (lookK l.n l.f) m pv ps ∧ Below w.heap.size w w' := by
  obtain ⟨a, n, cap, f⟩ := l
  obtain ⟨_, hc, hf⟩ := hl
  simp only at hn hc hf hd
  unfold FileL.val
  simp only
  have HF := hid hf
  have HDi := hid hd
  clear hf hd
  have E0 : Below w.heap.size w (w.alloc (.map #[] 0)) := (Below.refl _ w).alloc (Nat.le_refl _) _
  have S0 : Hid (Shelf (w.alloc (.map #[] 0)) w.heap.size w.heap.size 0 1 (lookK 0 f) (fun _ => none) (fun _ => .slice none 0 0) (fun _ => [])) :=
    hid ⟨MapS.made w, fun x => rfl, fun x b d h1 h2 => (by cases h1), fun x d h1 => (by simp [lookK] at h1), fun x y b h1 h2 => (by cases h1), fun x y _ h1 _ => (by simp [lookK] at h1), fun x b h1 => (by cases h1), Nat.le_refl _⟩
  have hmm := @run_makeMap Try.prog
  go_enter Try.func23, Try.ntmps23
  go_wp2
  go_loopw [9] (fun i wr => ∃ (k : Nat) (m : List UInt8 → Option Nat) (pv : List UInt8 → Value) (ps : List UInt8 → List ByteArray), k ≤ n ∧ i = .int .i64 k ∧ Shelf wr w.heap.size w.heap.size k 1 (lookK k f) m pv ps ∧ Below w.heap.size w wr) (fun i _ => n - (intOf i).toNat)
  case atStart => exact ⟨0, _, _, _, Nat.zero_le _, rfl, S0.out, E0⟩
  case round =>
    clear S0 E0 hmm
    obtain ⟨k, m, pv, ps, hk, rfl, hS, hB⟩ := hrel
    have HS := hid hS
    clear hS
    have bz := hB.size
    by_cases hlt' : k < n
    · obtain ⟨b, off, rfl, hlt, hcc⟩ := hc (by omega)
      have g1 : wr.cell? ⟨b, off + k * 2, none⟩ = some (.string (f k).name) := (hB.cell (p := ⟨b, _, none⟩) hlt).trans (hcc k hlt').1
      have g2 : wr.cell? ⟨b, off + k * 2 + 1, none⟩ = some (.string (f k).data) := (hB.cell (p := ⟨b, _, none⟩) hlt).trans (hcc k hlt').2
      have i0 : (0 : Int) ≤ (k : Int) := by omega
      have i1 : (k : Int) < (n : Int) := by omega
      clear hc hcc
      have z1 := (HF.out k hlt').1
      have EL := hid (lookK_succ (fun i hi => HDi.out i k hi hlt'))
      have b1 : Below wr.heap.size wr (wr.alloc (.cells #[.string (f k).name, .string (f k).data] 56)) := (Below.refl _ wr).alloc (Nat.le_refl _) _
      have o2 := own_one (wr.alloc (.cells #[.string (f k).name, .string (f k).data] 56)) w.heap.size (f k).data (by simp; omega)
      have b2 := b1.alloc (o := .cells #[.string (f k).data] 9) b1.size
      simp only [World.size_alloc] at o2
      have o3 := o2.alloc (.cells #[.slice (some ⟨wr.heap.size + 1, 0, none⟩) 1 1, .int .i64 (f k).data.size] 76)
      have c3 := Blk.new ((wr.alloc (.cells #[.string (f k).name, .string (f k).data] 56)).alloc (.cells #[.string (f k).data] 9)) (.cells #[.slice (some ⟨wr.heap.size + 1, 0, none⟩) 1 1, .int .i64 (f k).data.size] 76)
      simp only [World.size_alloc] at c3
      have b3 := b2.alloc (o := .cells #[.slice (some ⟨wr.heap.size + 1, 0, none⟩) 1 1, .int .i64 (f k).data.size] 76) b2.size
      obtain ⟨w4, hrun, M4, q4⟩ := (HS.out.map.below b3).update z1 (by unfold maxLen; omega) (wr.heap.size + 1 + 1)
      have HV : ∀ g, (Value.slice (some ⟨wr.heap.size + 1, 0, none⟩) 1 1).ownBlock = some g → wr.heap.size ≤ g := fun g hg => by
        have e : wr.heap.size + 1 = g := by simpa [Value.ownBlock] using hg
        omega
      have S4 := hid (HS.out.put b3 (key (f k).name) (f k).data (wr.heap.size + 1 + 1) _ _ c3 (by omega) bz o3 (by simp) (Nat.le_refl _) HV M4 q4)
      have B4 : Hid (Below w.heap.size w w4) := hid ((hB.trans (b3.mono bz)).trans (below_grown q4 (by simp; omega) (fun j e => by cases e; exact Nat.le_refl _)))
      clear o2 o3 c3 b1 b2 b3 M4 q4 HV
      go_wp2
      go_roundw
      case rel => exact ⟨k + 1, _, _, _, by omega, by go_num, by rw [EL.out]; exact S4.out, B4.out⟩
      case measure => simp [intOf]; omega
    · clear hc
      obtain rfl : k = n := by omega
      go_wp2
      go_ret
      exact ⟨_, _, _, _, rfl, HS.out, hB⟩
end Go.Proofs.Ytcchpeebhkiacaa
/- Changes: are they formed, do they find their file? -/
namespace Go.Proofs.Ytcchpeebhkiacaa
open Go Go.RowKit Go.Deep Go.Maps

set_option maxRecDepth 100000 in
set_option maxHeartbeats 1000000 in
theorem formedA (o : OpV) (w : World) (ho : o.wf) :
    Calls Try.prog 114 #[o.val] w fun e w' => e = .returned (.bool (nmOk o.name && o.to.toList.isEmpty)) ∧ Below w.heap.size w w' := by
  unfold OpV.val
  obtain ⟨z1, z2, z3⟩ := ho
  cases t0 : nmOk o.name with
  | false =>
    go_enter Try.func114, Try.ntmps114
    go_wp2_with (go_at_call 47; refine (nameOk_any _ _ (by assumption)).mono ?_; rintro e w' ⟨rfl, rfl⟩)
    go_ret
    exact ⟨rfl, (Below.refl _ _).alloc (Nat.le_refl _) _⟩
  | true =>
  cases t1 : o.to.toList.isEmpty with
  | false =>
    go_enter Try.func114, Try.ntmps114
    go_wp2_with (go_at_call 47; refine (nameOk_any _ _ (by assumption)).mono ?_; rintro e w' ⟨rfl, rfl⟩)
    go_ret
    exact ⟨rfl, (Below.refl _ _).alloc (Nat.le_refl _) _⟩
  | true =>
    go_enter Try.func114, Try.ntmps114
    go_wp2_with (go_at_call 47; refine (nameOk_any _ _ (by assumption)).mono ?_; rintro e w' ⟨rfl, rfl⟩)
    go_ret
    exact ⟨rfl, (Below.refl _ _).alloc (Nat.le_refl _) _⟩
set_option maxRecDepth 100000 in
set_option maxHeartbeats 1000000 in
theorem formedR (o : OpV) (w : World) (ho : o.wf) :
    Calls Try.prog 118 #[o.val] w fun e w' => e = .returned (.bool (nmOk o.name && nmOk o.to && o.data.toList.isEmpty)) ∧ Below w.heap.size w w' := by
  unfold OpV.val
  obtain ⟨z1, z2, z3⟩ := ho
  cases t0 : nmOk o.name with
  | false =>
    go_enter Try.func118, Try.ntmps118
    go_wp2_with (go_at_call 47; refine (nameOk_any _ _ (by assumption)).mono ?_; rintro e w' ⟨rfl, rfl⟩)
    go_ret
    exact ⟨rfl, (Below.refl _ _).alloc (Nat.le_refl _) _⟩
  | true =>
  cases t1 : nmOk o.to with
  | false =>
    go_enter Try.func118, Try.ntmps118
    go_wp2_with (go_at_call 47; refine (nameOk_any _ _ (by assumption)).mono ?_; rintro e w' ⟨rfl, rfl⟩)
    go_ret
    exact ⟨rfl, (Below.refl _ _).alloc (Nat.le_refl _) _⟩
  | true =>
  cases t2 : o.data.toList.isEmpty with
  | false =>
    go_enter Try.func118, Try.ntmps118
    go_wp2_with (go_at_call 47; refine (nameOk_any _ _ (by assumption)).mono ?_; rintro e w' ⟨rfl, rfl⟩)
    go_ret
    exact ⟨rfl, (Below.refl _ _).alloc (Nat.le_refl _) _⟩
  | true =>
    go_enter Try.func118, Try.ntmps118
    go_wp2_with (go_at_call 47; refine (nameOk_any _ _ (by assumption)).mono ?_; rintro e w' ⟨rfl, rfl⟩)
    go_ret
    exact ⟨rfl, (Below.refl _ _).alloc (Nat.le_refl _) _⟩
set_option maxRecDepth 100000 in
set_option maxHeartbeats 1000000 in
theorem formedD (o : OpV) (w : World) (ho : o.wf) :
    Calls Try.prog 121 #[o.val] w fun e w' => e = .returned (.bool (nmOk o.name && o.to.toList.isEmpty && o.data.toList.isEmpty)) ∧ Below w.heap.size w w' := by
  unfold OpV.val
  obtain ⟨z1, z2, z3⟩ := ho
  cases t0 : nmOk o.name with
  | false =>
    go_enter Try.func121, Try.ntmps121
    go_wp2_with (go_at_call 47; refine (nameOk_any _ _ (by assumption)).mono ?_; rintro e w' ⟨rfl, rfl⟩)
    go_ret
    exact ⟨rfl, (Below.refl _ _).alloc (Nat.le_refl _) _⟩
  | true =>
  cases t1 : o.to.toList.isEmpty with
  | false =>
    go_enter Try.func121, Try.ntmps121
    go_wp2_with (go_at_call 47; refine (nameOk_any _ _ (by assumption)).mono ?_; rintro e w' ⟨rfl, rfl⟩)
    go_ret
    exact ⟨rfl, (Below.refl _ _).alloc (Nat.le_refl _) _⟩
  | true =>
  cases t2 : o.data.toList.isEmpty with
  | false =>
    go_enter Try.func121, Try.ntmps121
    go_wp2_with (go_at_call 47; refine (nameOk_any _ _ (by assumption)).mono ?_; rintro e w' ⟨rfl, rfl⟩)
    go_ret
    exact ⟨rfl, (Below.refl _ _).alloc (Nat.le_refl _) _⟩
  | true =>
    go_enter Try.func121, Try.ntmps121
    go_wp2_with (go_at_call 47; refine (nameOk_any _ _ (by assumption)).mono ?_; rintro e w' ⟨rfl, rfl⟩)
    go_ret
    exact ⟨rfl, (Below.refl _ _).alloc (Nat.le_refl _) _⟩
theorem findsA (o : OpV) (c : Nat) (w : World) : Calls Try.prog 113 #[o.val, .map (some c)] w fun e w' => e = .returned (.bool true) ∧ Below w.heap.size w w' := by
  unfold OpV.val
  go_enter Try.func113, Try.ntmps113
  go_wp2
  go_ret
  exact ⟨rfl, by first | exact Below.refl _ _ | exact (Below.refl _ _).alloc (Nat.le_refl _) _⟩
theorem findsR (o : OpV) (c n : Nat) (m : List UInt8 → Option Nat) (w : World) (h : MapS w c n m) (hs : o.name.size ≤ maxLen) : Calls Try.prog 117 #[o.val, .map (some c)] w fun e w' => e = .returned (.bool (m (key o.name)).isSome) ∧ Below w.heap.size w w' := by
  unfold OpV.val
  have b0 : Below w.heap.size w (w.alloc (.cells #[.int .i64 o.kind, .string o.name, .string o.to, .string o.data] 99)) := (Below.refl _ w).alloc (Nat.le_refl _) _
  have H := hid (has_any o.name c n m _ (h.below b0) hs)
  clear h
  go_enter Try.func117, Try.ntmps117
  go_wp2_with (go_at_call 115; refine H.out.mono ?_; rintro e w' ⟨rfl, rfl⟩)
  go_ret
  exact ⟨rfl, b0⟩
theorem findsD (o : OpV) (c n : Nat) (m : List UInt8 → Option Nat) (w : World) (h : MapS w c n m) (hs : o.name.size ≤ maxLen) : Calls Try.prog 120 #[o.val, .map (some c)] w fun e w' => e = .returned (.bool (m (key o.name)).isSome) ∧ Below w.heap.size w w' := by
  unfold OpV.val
  have b0 : Below w.heap.size w (w.alloc (.cells #[.int .i64 o.kind, .string o.name, .string o.to, .string o.data] 100)) := (Below.refl _ w).alloc (Nat.le_refl _) _
  have H := hid (has_any o.name c n m _ (h.below b0) hs)
  clear h
  go_enter Try.func120, Try.ntmps120
  go_wp2_with (go_at_call 115; refine H.out.mono ?_; rintro e w' ⟨rfl, rfl⟩)
  go_ret
  exact ⟨rfl, b0⟩
end Go.Proofs.Ytcchpeebhkiacaa
