/- Stream of the program, and its law. -/
import Derived.Test.YtbopcgokmgifhaaDoorCE
import Derived.Test.YtbopcgokmgifhaaDoorCG
import Derived.Lib.AppendStr
namespace Go.Proofs.YtbopcgokmgifhaaDoor
open Go Go.RowKit Go.Deep Go.Maps Go.Lib
open Go.WideShapes (add_plain)

theorem isNonce_yes {x : Int} (w : World) (h1 : 0 ≤ x) (h2 : x ≤ 1099511627776) : Calls Tryd.prog 26 #[.int .i64 x] w fun e w' => e = .returned (.bool true) ∧ w' = w := by
  go_enter Tryd.func26, Tryd.ntmps26
  go_wp2
  go_ret
  exact ⟨rfl, rfl⟩
theorem isNonce_no {x : Int} (w : World) (h : x < 0 ∨ 1099511627776 < x) : Calls Tryd.prog 26 #[.int .i64 x] w fun e w' => e = .returned (.bool false) ∧ w' = w := by
  rcases h with h | h
  · have h' : ¬ 0 ≤ x := by omega
    go_enter Tryd.func26, Tryd.ntmps26
    go_wp2
    go_ret
    exact ⟨rfl, rfl⟩
  · have h1 : 0 ≤ x := by omega
    have h' : ¬ x ≤ 1099511627776 := by omega
    go_enter Tryd.func26, Tryd.ntmps26
    go_wp2
    go_ret
    exact ⟨rfl, rfl⟩

theorem text_prefix {w : World} {B n c g : Nat} {l : List UInt8} (h : OwnB w B (.slice (some ⟨g, 0, none⟩) l.length c) l) (hn : n ≤ l.length) : (convert 22 9 (.slice (some ⟨g, 0, none⟩) n c)).run Tryd.prog w = .ok (.string ⟨(l.take n).toArray⟩) w := by
  have e := run_convert_bytes_back (P := Tryd.prog) w 22 9 5 ⟨g, 0, none⟩ c (l.take n) Tryd.underlying22 Tryd.underlying5 Tryd.underlying9 fun j hj => by
    rw [List.length_take] at hj
    have hj' : j < l.length := by omega
    have t := World.ownsRow.cells h (g := g) rfl j (.int .u8 (l[j]'hj').toNat) (by simp [bcells, hj'])
    rw [t, List.getElem_take]
  rw [List.length_take, Nat.min_eq_left hn] at e
  exact e
theorem text_nil (w : World) : (convert 22 9 (.slice none 0 0)).run Tryd.prog w = .ok (.string ⟨#[]⟩) w := by
  rw [run_convert_bytes_string w 22 9 5 none 0 0 Tryd.underlying22 Tryd.underlying5 Tryd.underlying9]
  rfl
theorem strCells_list (l : List UInt8) : strCells ⟨l.toArray⟩ = bcells l := by simp [strCells, bcells]
theorem wpList_append_text {ops : Array Oper} {rest : List Oper} {o : Oper} {a : Act} {Q : Exit → Act → World → Prop} (w : World) (hgd : o.guard = none) (s x : Operand)
    (ho : o.op = .call { callee := .builtin .append, args := #[s, x], argTypes := #[22, 9] })
    (B : Nat) (v : Value) (l : List UInt8) (hs : a.eval s = v) (hown : OwnB w B v l) (t : List UInt8) (hx : a.eval x = .string ⟨t.toArray⟩)
    (hm : l.length + t.length ≤ 100000) (hB : B ≤ w.heap.size)
    (h : ∀ ad c' w', OwnB w' B (.slice ad (l ++ t).length c') (l ++ t) → w.grownBy w' v.ownBlock → wpList Tryd.prog ops Q rest (a.put o.dst (.slice ad (l ++ t).length c')) w') : wpList Tryd.prog ops Q (o :: rest) a w := by
  obtain ⟨i0, hi, hz0, hz1, hz2⟩ := info_parts Tryd.info5
  have e0 : (⟨t.toArray⟩ : ByteArray).size = t.length := size_ofR t
  refine wpList_append_own_string (P := Tryd.prog) w hgd s x 22 9 ho B 5 i0 Tryd.underlying22 Tryd.underlying9 hi hz0 hz1 hz2 v l.length _ hs hown ⟨t.toArray⟩ hx (by unfold maxLen; rw [e0]; omega) (by rw [e0]; omega) hB fun v' w' h2 h3 _ => ?_
  rw [e0, strCells_list] at h2
  have e1 : bcells l ++ bcells t = bcells (l ++ t) := by simp [bcells]
  have e2 : l.length + t.length = (l ++ t).length := by simp
  rw [e1, e2] at h2
  obtain ⟨ad, c', rfl⟩ := ownsRow_shapeR h2
  exact h ad c' w' h2 h3
theorem OwnB.below {w w' : World} {B : Nat} {v : Value} {l : List UInt8} (h : OwnB w B v l) (hb : Below w.heap.size w w') : OwnB w' B v l := by
  obtain ⟨h1, h2⟩ := h
  refine ⟨h1, ?_⟩
  rcases h2 with h2 | ⟨g, cap, cur, hv, hb', hg, rest⟩
  · exact .inl h2
  · refine .inr ⟨g, cap, cur, hv, hb', ?_, rest⟩
    rw [hb.block g (Array.getElem?_eq_some_iff.1 hg).1]
    exact hg
theorem own_block_ge {w : World} {B : Nat} {v : Value} {l : List UInt8} (h : OwnB w B v l) {k : Nat} (hk : k < B) : some k ≠ v.ownBlock := fun e => by
  have := (World.ownsRow.lt h k e.symm).1
  omega

set_option maxRecDepth 100000 in
set_option maxHeartbeats 2000000 in
theorem implStream_good (s : ByteArray) (b n : Int) (w : World) (h : strmOk s b n) :
    Calls Tryd.prog 10 #[.string s, .int .i64 b, .int .i64 n] w fun e w' => e = .returned (.tuple #[.string (strmAns s b n).1, .bool (strmAns s b n).2]) ∧ Below w.heap.size w w' := by
  have E : Hid (strmAns s b n = (⟨((strm s (b * 1024) ((n.toNat + 7) / 8)).take n.toNat).toArray⟩, true)) := by show _ = _; rw [strmAns, if_pos h]
  obtain ⟨hs, hb0, hb1, hn0, hn1⟩ := h
  have HS := hid hs
  have L1 := hid (fun w => isNonce_yes w hb0 hb1)
  have hn0' : ¬ n < 0 := by omega
  have hn1' : ¬ 1000 < n := by omega
  go_enter Tryd.func10, Tryd.ntmps10
  go_wp2_with (first
    | (go_at_call 26; refine (L1.out _).mono ?_; rintro e w1 ⟨rfl, hw1⟩; subst w1)
    | (go_at_call 27; refine (roundKeys_any s _ HS.out).mono ?_; rintro e w1 ⟨A, rfl, hA, h1⟩; have HA := hid hA; have HZ := hid hA.size; have H1 := hid (keys_one hA); clear hA)
    | (refine wpList_store_arr _ rfl rfl _ _ rfl w1.heap.size A _ rfl rfl (heap_alloc_new _ _) rfl HZ.out H1.out ?_; rw [World.setRow_alloc_new]))
  have sz := h1.size
  have hB0 := h1.alloc sz (.cells A 46)
  have hr0 : (w1.alloc (.cells A 46)).heap[w1.heap.size]? = some (.cells A 46 (0, 0)) := heap_alloc_new _ _
  have O0 : OwnB (w1.alloc (.cells A 46)) (w1.heap.size + 1) (.slice none 0 0) [] := World.ownsRow_nil _ _ _ _
  go_loopw [9, 10] (fun ov bv W => ∃ (m : Nat) (l : List UInt8) (ad : Option Addr) (c : Nat), (m : Int) ≤ 125 ∧ 8 * (m : Int) < n + 8 ∧ bv = .int .i64 (b * 1024 + m) ∧ ov = .slice ad l.length c ∧ OwnB W (w1.heap.size + 1) (.slice ad l.length c) l ∧ W.heap[w1.heap.size]? = some (.cells A 46 (0, 0)) ∧ l = strm s (b * 1024) m ∧ Below w.heap.size w W ∧ w1.heap.size + 1 ≤ W.heap.size) (fun _ i _ => (b * 1024 + 126 - intOf i).toNat)
  case atStart => exact ⟨0, [], none, 0, by omega, by omega, by simp, rfl, O0, hr0, rfl, hB0, by simp⟩
  case round =>
    clear O0 hr0 hB0
    obtain ⟨m, l, ad, c, hm, hmn, rfl, rfl, O, hr, hl, hB, hz⟩ := hrel
    have HB := hid hB
    have hlen : Hid (l.length = 8 * m) := by show _ = _; rw [hl, strm_len]
    have HLL := hid hl
    have HO := hid O
    have HR := hid hr
    clear hl hB O hr
    by_cases h0 : (l.length : Int) < n
    · have hm8 : 8 * (m : Int) < n := by have := hlen.out; omega
      have HN : Hid (strm s (b * 1024) (m + 1) = l ++ bigL (blkOf s (b * 1024 + m)) 8) := by show _ = _; rw [HLL.out]; rfl
      have hD : Hid ((bigL (blkOf s (b * 1024 + m)) 8).length = 8) := bigL_len _ _
      have r1 : l.length + (bigL (blkOf s (b * 1024 + m)) 8).length ≤ 100000 := by have := hlen.out; have := hD.out; omega
      go_wp2_with (first
        | (refine wpList_load_arr _ rfl _ rfl w1.heap.size A rfl HR.out HZ.out ?_)
        | (go_at_call 28; refine (blockOf_any s A (b * 1024 + m) _ HA.out).mono ?_; rintro e w2 ⟨rfl, h2⟩)
        | (go_at_call 18; refine (highFirst_any (blkOf s (b * 1024 + m)) 8 _ (by decide)).mono ?_; rintro e w3 ⟨rfl, h3⟩; have O3 := HO.out.below (h2.trans (h3.mono h2.size)); have z3 := Nat.le_trans hz (Nat.le_trans h2.size h3.size))
        | (at_builtin; refine wpList_append_text _ rfl _ _ rfl (w1.heap.size + 1) _ l rfl O3 (bigL (blkOf s (b * 1024 + m)) 8) rfl r1 z3 ?_; intro ad' c' w4 O4 hg4))
      have B4 : Below w.heap.size w w4 := HB.out.trans (((h2.mono HB.out.size).trans (h3.mono (Nat.le_trans HB.out.size h2.size))).trans (below_grown hg4 (by have := HB.out.size; have := h2.size; have := h3.size; omega) (fun x hx => by have := (World.ownsRow.lt O3 x hx).1; omega)))
      have R4 : w4.heap[w1.heap.size]? = some (.cells A 46 (0, 0)) := by
        rw [hg4.block _ (by omega) (own_block_ge O3 (by omega)), h3.block _ (by have := h2.size; omega), h2.block _ (by omega)]
        exact HR.out
      refine ⟨⟨m + 1, l ++ bigL (blkOf s (b * 1024 + m)) 8, ad', c', by omega, by omega, ?_, ?_, O4, R4, HN.out.symm, B4, Nat.le_trans z3 hg4.size⟩, by simp [intOf]; omega⟩
      · congr 1
        omega
      · rw [List.length_append]
    · have HM : Hid (m = (n.toNat + 7) / 8) := by show _ = _; have := hlen.out; omega
      obtain ⟨k, rfl⟩ : ∃ k : Nat, n = (k : Int) := ⟨n.toNat, by omega⟩
      rcases HO.out.2 with ⟨hv, hl0⟩ | ⟨g, cap, cur, hv, _, _, hcap, _, _, _⟩
      · simp only [Value.slice.injEq] at hv
        obtain ⟨rfl, _, rfl⟩ := hv
        obtain rfl : l = [] := List.eq_nil_of_length_eq_zero hl0
        obtain rfl : k = 0 := by simp only [List.length_nil] at h0; omega
        have E0 : Hid (strmAns s b 0 = (⟨#[]⟩, true)) := by show _ = _; have := E.out; simpa using this
        clear E
        have htx := text_nil wr
        go_wp2
        go_ret2
        refine ⟨ret_strm ?_ ?_, HB.out⟩
        · rw [E0.out]
        · rw [E0.out]
      · simp only [Value.slice.injEq] at hv
        obtain ⟨rfl, _, rfl⟩ := hv
        have hc1 : (k : Int) ≤ (c : Int) := by omega
        have htx := text_prefix (n := k) HO.out (by omega)
        clear hcap
        go_wp2
        go_ret2
        refine ⟨ret_strm ?_ ?_, HB.out⟩
        · rw [E.out, HLL.out, HM.out, Int.toNat_natCast]
        · rw [E.out]

set_option maxRecDepth 100000 in
theorem implStream_any (s : ByteArray) (b n : Int) (w : World) :
    Calls Tryd.prog 10 #[.string s, .int .i64 b, .int .i64 n] w fun e w' => e = .returned (.tuple #[.string (strmAns s b n).1, .bool (strmAns s b n).2]) ∧ Below w.heap.size w w' := by
  by_cases h : strmOk s b n
  · exact implStream_good s b n w h
  have E : Hid (strmAns s b n = (⟨#[]⟩, false)) := by show _ = _; rw [strmAns, if_neg h]
  by_cases hs : s.size = 16
  · by_cases hb : 0 ≤ b ∧ b ≤ 1099511627776
    · have L1 := hid (fun w => isNonce_yes w hb.1 hb.2)
      have hn : n < 0 ∨ 1000 < n := by unfold strmOk at h; omega
      clear h hb
      rcases hn with hn | hn
      · go_enter Tryd.func10, Tryd.ntmps10
        go_wp2_with (go_at_call 26; refine (L1.out _).mono ?_; rintro e w1 ⟨rfl, hw1⟩; subst w1)
        go_ret2
        exact ⟨by rw [E.out]; rfl, Below.refl _ _⟩
      · have hn' : ¬ n < 0 := by omega
        go_enter Tryd.func10, Tryd.ntmps10
        go_wp2_with (go_at_call 26; refine (L1.out _).mono ?_; rintro e w1 ⟨rfl, hw1⟩; subst w1)
        go_ret2
        exact ⟨by rw [E.out]; rfl, Below.refl _ _⟩
    · have L1 := hid (fun w => isNonce_no (x := b) w (by omega))
      clear h hb
      go_enter Tryd.func10, Tryd.ntmps10
      go_wp2_with (go_at_call 26; refine (L1.out _).mono ?_; rintro e w1 ⟨rfl, hw1⟩; subst w1)
      go_ret2
      exact ⟨by rw [E.out]; rfl, Below.refl _ _⟩
  · have hs' : ¬ (s.size : Int) = 16 := by omega
    clear h
    go_enter Tryd.func10, Tryd.ntmps10
    go_wp2
    go_ret2
    exact ⟨by rw [E.out]; rfl, Below.refl _ _⟩

end Go.Proofs.YtbopcgokmgifhaaDoor
