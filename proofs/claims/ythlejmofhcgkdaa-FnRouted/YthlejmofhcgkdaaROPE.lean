/- slices.Grow and slices.Concat over routes. -/
import Derived.Test.YthlejmofhcgkdaaROPD
import Derived.Lib.AppendZeros
namespace Go.Proofs.Ythlejmofhcgkdaa
open Go Go.RowKit Go.Deep Go.BigFrame Go.Maps

set_option maxRecDepth 100000 in
set_option maxHeartbeats 2000000 in
theorem grow_any (n : Nat) (w : World) (h1 : 1 ≤ n) (h2 : n ≤ 100) : Calls Try.prog 38 #[.slice none 0 0, .int .i64 n] w fun e w' => ∃ g c, e = .returned (.slice (some ⟨g, 0, none⟩) 0 c) ∧ OwnR w' w.heap.size (.slice (some ⟨g, 0, none⟩) 0 c) [] ∧ Below w.heap.size w w' := by
  obtain ⟨i0, hi, hz0, hz1, hz2⟩ := info_parts Try.info29
  have A := hid (Lib.run_append_nil_zeros (P := Try.prog) w 24 3 24 29 i0 _ .i64 _ Try.underlying24 Try.underlying3 hi hz0 n (by omega) (by omega) (by omega) (by rw [hz2]; omega))
  have G1 := grownCap_ge w n 0 29
  have G2 := grownCap_le_maxLen w n 0 29 (by unfold maxLen; omega)
  generalize grownCap w n 0 29 = cap at *
  have O : Hid (OwnR (w.drew.alloc (.cells (Builtin.zeroCells (Value.agg #[.int .i64 0, .int .i64 0, .int .i64 0]).cells n ++ Builtin.zeroCells (Value.agg #[.int .i64 0, .int .i64 0, .int .i64 0]).cells (cap - n)) 29)) w.heap.size (.slice (some ⟨w.heap.size, 0, none⟩) 0 cap) []) := by
    refine ⟨rfl, .inr ⟨w.heap.size, cap, (Builtin.zeroCells (Value.agg #[.int .i64 0, .int .i64 0, .int .i64 0]).cells n ++ Builtin.zeroCells (Value.agg #[.int .i64 0, .int .i64 0, .int .i64 0]).cells (cap - n)), rfl, Nat.le_refl _, ?_, Nat.zero_le _, G2, ?_, rfl⟩⟩
    · unfold World.alloc; exact Array.getElem?_push_size
    · rw [Array.size_append, size_zeroCells, size_zeroCells]
      show n * 3 + (cap - n) * 3 = cap * 3
      omega
  have B : Hid (Below w.heap.size w (w.drew.alloc (.cells (Builtin.zeroCells (Value.agg #[.int .i64 0, .int .i64 0, .int .i64 0]).cells n ++ Builtin.zeroCells (Value.agg #[.int .i64 0, .int .i64 0, .int .i64 0]).cells (cap - n)) 29))) := ((Below.refl _ w).drew).alloc (Nat.le_refl _) _
  have m0 : ¬ (n : Int) < 0 := by omega
  have m1 : (0 : Int) < (n : Int) := by omega
  go_enter Try.func38, Try.ntmps38
  go_wp2_with (at_builtin; refine Lib.wpList_append_run _ rfl _ _ _ _ rfl _ _ rfl rfl _ _ A.out ?_)
  go_ret
  exact ⟨_, _, rfl, O.out, B.out⟩

theorem wpList_append_rts {ops : Array Oper} {rest : List Oper} {o : Oper} {a : Act} {Q : Exit → Act → World → Prop} (w : World) (hgd : o.guard = none) (s x : Operand)
    (ho : o.op = .call { callee := .builtin .append, args := #[s, x], argTypes := #[24, 24] })
    (B : Nat) (l : List R3) (g0 c0 : Nat) (hs : a.eval s = .slice (some ⟨g0, 0, none⟩) l.length c0) (hown : OwnR w B (.slice (some ⟨g0, 0, none⟩) l.length c0) l) (ad : Option Addr) (m c : Nat) (r : List R3) (hx : a.eval x = .slice ad m c) (hr : m = r.length) (hc : LiesC w ad r.length (rcells r))
    (hm : l.length + r.length ≤ 1000) (hB : B ≤ w.heap.size)
    (h : ∀ g c' w', OwnR w' B (.slice (some ⟨g, 0, none⟩) (l ++ r).length c') (l ++ r) → w.grownBy w' (some g0) → wpList Try.prog ops Q rest (a.put o.dst (.slice (some ⟨g, 0, none⟩) (l ++ r).length c')) w') : wpList Try.prog ops Q (o :: rest) a w := by
  subst hr
  refine wpList_plain hgd fun _ hK => wp_append_gen Try.underlying24 Try.info29 rfl (by omega) w s x ho B _ l.length _ hs hown ad r.length c (rcells r) hx (rcells_len r) hc (fun u hu => by
    obtain ⟨t, _, ht⟩ := List.mem_flatMap.1 hu
    simp [rc] at ht; rcases ht with rfl | rfl | rfl <;> rfl) (by omega) (by omega) hB fun a' c' w' h2 h3 h4 => hK _ _ ?_
  have e1 : rcells l ++ rcells r = rcells (l ++ r) := by simp [rcells]
  have e2 : l.length + r.length = (l ++ r).length := by simp
  rw [e1] at h2
  obtain ⟨g, ea⟩ : ∃ g, a' = some ⟨g, 0, none⟩ := by
    rcases h2.2 with ⟨h5, h6⟩ | ⟨g, cap, cur, h5, _⟩
    · simp only [Value.slice.injEq] at h5
      obtain ⟨rfl, _, _⟩ := h5
      rcases h4 with h4 | h4 <;> simp [Value.ownBlock] at h4
    · simp only [Value.slice.injEq] at h5
      exact ⟨g, h5.1⟩
  subst ea
  rw [e2] at h2 ⊢
  exact h g c' w' h2 h3

def cat (L : Nat → List R3) : Nat → List R3
  | 0 => []
  | k + 1 => cat L k ++ L k
def Three (w : World) (d : Nat) (ad : Nat → Option Addr) (cp : Nat → Nat) (L : Nat → List R3) : Prop :=
  d < w.heap.size ∧ ∀ i, i < 3 → w.cell? ⟨d, i, none⟩ = some (.slice (ad i) (L i).length (cp i)) ∧ LiesC w (ad i) (L i).length (rcells (L i))

set_option maxRecDepth 100000 in
set_option maxHeartbeats 2000000 in
theorem concat_any (d cap : Nat) (ad : Nat → Option Addr) (cp : Nat → Nat) (L : Nat → List R3) (w : World) (H : Three w d ad cp L) (h1 : 1 ≤ (cat L 3).length) (h2 : (cat L 3).length ≤ 100) :
    Calls Try.prog 31 #[.slice (some ⟨d, 0, none⟩) 3 cap] w fun e w' => ∃ g c, e = .returned (.slice (some ⟨g, 0, none⟩) (cat L 3).length c) ∧ OwnR w' w.heap.size (.slice (some ⟨g, 0, none⟩) (cat L 3).length c) (cat L 3) ∧ Below w.heap.size w w' := by
  have G := hid (grow_any (cat L 3).length w h1 h2)
  have LE : Hid (∀ k, (cat L (k + 1)).length = (cat L k).length + (L k).length) := fun k => by simp [cat]
  have LM : Hid (∀ k, k ≤ 3 → (cat L k).length ≤ 100) := fun k hk => by
    have a1 : (cat L 1).length = (cat L 0).length + (L 0).length := LE.out 0
    have a2 : (cat L 2).length = (cat L 1).length + (L 1).length := LE.out 1
    have a3 : (cat L 3).length = (cat L 2).length + (L 2).length := LE.out 2
    match k with
    | 0 => omega
    | 1 => omega
    | 2 => omega
    | 3 => omega
    | k + 4 => omega
  have HT := hid H.2
  have hd := H.1
  clear H
  go_enter Try.func31, Try.ntmps31
  go_wp2
  go_loopw [3, 5, 11] (fun s _ i wr => ∃ k : Nat, k ≤ 3 ∧ i = .int .i64 k ∧ s = .int .i64 (cat L k).length ∧ wr = w) (fun _ _ i _ => 3 - (intOf i).toNat)
  case atStart => exact ⟨0, Nat.zero_le _, rfl, rfl, rfl⟩
  case round =>
    obtain ⟨k, hk, rfl, rfl, hw⟩ := hrel
    subst wr
    by_cases hlt : k < 3
    · obtain ⟨c1, _⟩ := HT.out k hlt
      have l1 := LE.out k
      have l2 := LM.out (k + 1) (by omega)
      have i0 : (0 : Int) ≤ (k : Int) := by omega
      have i1 : (k : Int) < 3 := by omega
      go_wp2
      exact ⟨⟨k + 1, by omega, rfl, by rw [l1]; rfl, trivial⟩, by simp [intOf]; omega⟩
    · have ek : k = 3 := by omega
      subst ek
      go_wp2_with (go_at_call 38; refine G.out.mono ?_; rintro e w1 ⟨g0, c0, rfl, O0, B0⟩)
      go_loopw [6, 8, 27] (fun v _ i wr => ∃ k g c : Nat, k ≤ 3 ∧ i = .int .i64 k ∧ v = .slice (some ⟨g, 0, none⟩) (cat L k).length c ∧ OwnR wr w.heap.size (.slice (some ⟨g, 0, none⟩) (cat L k).length c) (cat L k) ∧ Below w.heap.size w wr) (fun _ _ i _ => 3 - (intOf i).toNat)
      case atStart => exact ⟨0, g0, c0, Nat.zero_le _, rfl, rfl, O0, B0⟩
      case round =>
        obtain ⟨k, g, c, hk, rfl, rfl, O, hB⟩ := hrel
        by_cases hlt : k < 3
        · obtain ⟨e1, e2⟩ := HT.out k hlt
          have c1 : wr.cell? ⟨d, k, none⟩ = some (.slice (ad k) (L k).length (cp k)) := (hB.cell (p := ⟨d, k, none⟩) hd).trans e1
          have LI := hid (e2.below hB)
          have l1 := hid (LE.out k)
          have l2 := LM.out (k + 1) (by omega)
          have l3 : (cat L k).length + (L k).length ≤ 1000 := by have := l1.out; omega
          have i0 : (0 : Int) ≤ (k : Int) := by omega
          have i1 : (k : Int) < 3 := by omega
          have HO := hid O
          have sz := hid hB.size
          clear e1 e2 O
          go_wp2_with (at_builtin; refine wpList_append_rts _ rfl _ _ rfl w.heap.size (cat L k) g c rfl HO.out _ _ _ (L k) rfl rfl LI.out l3 sz.out ?_; intro g4 c4 w4 O4 hg4; generalize hX4 : cat L k ++ L k = X4 at O4 ⊢; have EX4 := hid hX4; have OX4 := hid O4; have GX4 := hid hg4; clear hX4 O4 hg4)
          have B4 : Below w.heap.size w w4 := hB.trans (below_grown GX4.out sz.out (fun j hj => (World.ownsRow.lt HO.out j hj).1))
          have EN : cat L (k + 1) = X4 := EX4.out
          exact ⟨⟨k + 1, g4, c4, by omega, rfl, by rw [EN], by rw [EN]; exact OX4.out, B4⟩, by simp [intOf]; omega⟩
        · have ek : k = 3 := by omega
          subst ek
          go_wp2
          go_ret
          exact ⟨g, c, rfl, O, hB⟩
end Go.Proofs.Ythlejmofhcgkdaa
