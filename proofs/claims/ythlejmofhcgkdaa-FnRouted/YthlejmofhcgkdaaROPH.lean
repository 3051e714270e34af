/- Routed of the program. -/
import Derived.Test.YthlejmofhcgkdaaROPG
namespace Go.Proofs.Ythlejmofhcgkdaa
open Go Go.RowKit Go.Deep Go.BigFrame Go.Maps

theorem Three.drew {W : World} {d : Nat} {ad : Nat → Option Addr} {cp : Nat → Nat} {L : Nat → List R3} (H : Three W d ad cp L) : Three W.drew d ad cp L := H
/-- the three put together, at the world of the call -/
theorem cat_any {w W : World} {b off n cap s : Nat} {f g h : Nat → Int} (x y z : Int) (hB : Below w.heap.size w W) (H : RtsAt W (some ⟨b, off, none⟩) n f g h) (hs : s ≤ n) (a2 : Option Addr) (m c2 t0 : Nat) (hl2 : LiesC W a2 m (rcells (seg f g h t0 m)))
    (X : List R3) (hX : seg f g h 0 s ++ [(x, y, z)] ++ seg f g h t0 m = X) (hl : X.length ≤ 20) :
    Calls Try.prog 31 #[.slice (some ⟨W.heap.size + 1, 0, none⟩) 3 3] ((W.alloc (.cells #[.int .i64 x, .int .i64 y, .int .i64 z] 29)).alloc (.cells #[.slice (some ⟨b, off, none⟩) s cap, .slice (some ⟨W.heap.size, 0, none⟩) 1 1, .slice a2 m c2] 24)).drew fun e w' =>
      ∃ g c, e = .returned (.slice (some ⟨g, 0, none⟩) X.length c) ∧ Hid (OwnR w' w.heap.size (.slice (some ⟨g, 0, none⟩) X.length c) X) ∧ Hid (Below w.heap.size w w') := by
  have e := (cat3 (seg f g h 0 s) [(x, y, z)] (seg f g h t0 m)).trans hX
  have h1 : 1 ≤ X.length := by rw [← hX, List.length_append, List.length_append, List.length_singleton]; omega
  have := concat_any (W.heap.size + 1) 3 _ _ _ _ (Three.drew (three_of (cap := cap) x y z H hs a2 m c2 t0 hl2)) (by rw [e]; exact h1) (by rw [e]; omega)
  rw [e] at this
  have B2 := ((hB.alloc hB.size (.cells #[.int .i64 x, .int .i64 y, .int .i64 z] 29)).alloc (Nat.le_trans hB.size (by rw [World.size_alloc]; omega)) (.cells #[.slice (some ⟨b, off, none⟩) s cap, .slice (some ⟨W.heap.size, 0, none⟩) 1 1, .slice a2 m c2] 24)).drew
  exact this.mono fun e w' ⟨g, c, he, ho, hb⟩ => ⟨g, c, he, ho.mono B2.size, then_ B2 hb⟩

set_option maxRecDepth 100000 in
set_option maxHeartbeats 4000000 in
theorem implRouted_any (b off n cap : Nat) (f g h : Nat → Int) (x y z : Int) (w : World) (hcap : n ≤ cap) (H : RtsAt w (some ⟨b, off, none⟩) n f g h) (ho : rtsOk n f g h = true) (hr : rOk x y z = true) :
    Calls Try.prog 10 #[.slice (some ⟨b, off, none⟩) n cap, .agg #[.int .i64 x, .int .i64 y, .int .i64 z]] w fun e w' => Below w.heap.size w w' ∧ RtdIs w (laidAll f g h (x, y, z) n) e w' := by
  have n20 := rts_n ho
  have L0 := (Below.refl _ w).alloc (Nat.le_refl _) (.cells #[.int .i64 x, .int .i64 y, .int .i64 z] 29)
  have hv : w.heap.size < (w.alloc (.cells #[.int .i64 x, .int .i64 y, .int .i64 z] 29)).heap.size := by rw [World.size_alloc]; omega
  have V1 := hid (up_cell hv (show (w.alloc (.cells #[.int .i64 x, .int .i64 y, .int .i64 z] 29)).cell? ⟨w.heap.size, 0, none⟩ = some (.int .i64 x) by simp))
  have V2 := hid (up_cell hv (show (w.alloc (.cells #[.int .i64 x, .int .i64 y, .int .i64 z] 29)).cell? ⟨w.heap.size, 1, none⟩ = some (.int .i64 y) by simp))
  have V3 := hid (up_cell hv (show (w.alloc (.cells #[.int .i64 x, .int .i64 y, .int .i64 z] 29)).cell? ⟨w.heap.size, 2, none⟩ = some (.int .i64 z) by simp))
  have F9 := hid (implRoutes_any (some ⟨b, off, none⟩) n cap f g h _ (by unfold maxLen; omega) (H.below L0))
  have F19 := hid (fun w => routeOk_any x y z w)
  rw [ho] at F9
  rw [hr] at F19
  obtain ⟨s, hs, lo, hi⟩ := place ho x y n (Nat.le_refl _)
  have S30 : Hid (∀ W, Below w.heap.size w W → Calls Try.prog 29 #[.slice (some ⟨b, off, none⟩) n cap, .agg #[.int .i64 x, .int .i64 y, .int .i64 z], .func (.func 30) #[] #[]] W fun e w' => e = .returned (.tuple #[.int .i64 s, .bool (decide (s < n) && decide (f s = x ∧ g s = y))]) ∧ Below W.heap.size W w') := fun W hW => by
    have := search30_any (some ⟨b, off, none⟩) n cap f g h x y z s W n20 (H.below hW) hs (fun j hj => ord_no (lo j hj)) (fun j h1 h2 => by have := ord_yes (hi j h1 h2); omega)
    rwa [ord_zero] at this
  have HH := hid H
  have HL0 := hid L0
  have HV := hid hv
  have LO := hid lo
  have HI := hid hi
  have HO := hid ho
  clear H L0 hv ho hr lo hi
  have AN := hid (fun hn => all_new (z := z) HO.out hs LO.out HI.out hn)
  have AO := hid (fun h1 h2 h3 => all_old (z := z) HO.out (s := s) h1 LO.out h2 h3)
  generalize laidAll f g h (x, y, z) n = X at *
  by_cases hf : s < n ∧ f s = x ∧ g s = y
  · have EA := hid (AO.out hf.1 hf.2.1 hf.2.2)
    obtain ⟨hf1, hf2⟩ := hf
    rw [decide_eq_true hf1, decide_eq_true hf2] at S30
    have hl : X.length ≤ 20 := by rw [EA.out]; simp [seg_len]; omega
    have HX := hid hl
    clear hf2 hl AN AO LO HI HO
    have i0 : (0 : Int) ≤ (s : Int) := by omega
    have i1 : (s : Int) ≤ (n : Int) := by omega
    have i2 : (s : Int) ≤ (cap : Int) := by omega
    have i3 : (n : Int) ≤ (cap : Int) := by omega
    go_enter Try.func10, Try.ntmps10
    go_wp2_with (first
      | (go_at_call 29; refine (S30.out _ (then_ HL0.out (then_ h1 h2))).mono ?_; rintro e w3 ⟨rfl, h3⟩)
      | (go_at_call 28; refine (F19.out _).mono ?_; rintro e w2 ⟨rfl, h2⟩; have q4 := V1.out ⟨w2, then_ h1 h2⟩; have q5 := V2.out ⟨w2, then_ h1 h2⟩; have q6 := V3.out ⟨w2, then_ h1 h2⟩)
      | (go_at_call 12; refine F9.out.mono ?_; rintro e w1 ⟨rfl, h1⟩; have q1 := V1.out ⟨w1, h1⟩; have q2 := V2.out ⟨w1, h1⟩; have q3 := V3.out ⟨w1, h1⟩))
    all_goals (
      have B3 := hid (then_ HL0.out (then_ (then_ h1 h2) h3))
      have H3 := hid (HH.out.below B3.out)
      have q7 : w3.cell? ⟨w.heap.size, 0, none⟩ = some (.int .i64 x) := V1.out ⟨w3, then_ (then_ h1 h2) h3⟩
      have q8 : w3.cell? ⟨w.heap.size, 1, none⟩ = some (.int .i64 y) := V2.out ⟨w3, then_ (then_ h1 h2) h3⟩
      have q9 : w3.cell? ⟨w.heap.size, 2, none⟩ = some (.int .i64 z) := V3.out ⟨w3, then_ (then_ h1 h2) h3⟩
      clear h1 h2 h3 q1 q2 q3 q4 q5 q6)
    · have m0 : n - s - 1 = 0 := by omega
      rw [m0] at EA
      have C := hid (cat_any (cap := cap) x y z B3.out H3.out hs (some ⟨b, off + s * 3, none⟩) 0 0 (s + 1) (fun h => absurd h (by omega)) X EA.out.symm HX.out)
      go_region_with (go_at_call 31; refine C.out.mono ?_; rintro e w5 ⟨g5, c5, rfl, O5, B5⟩)
      go_wp2
      go_ret2
      exact ⟨B5.out, RtdIs.yes HX.out O5.out⟩
    · have LS := lies_seg (t0 := s + 1) (m := n - s - 1) H3.out (by omega)
      rw [show off + (s + 1) * 3 = off + s * 3 + 3 by omega] at LS
      have C := hid (cat_any (cap := cap) x y z B3.out H3.out hs (some ⟨b, off + s * 3 + 3, none⟩) (n - s - 1) (cap - s - 1) (s + 1) LS X EA.out.symm HX.out)
      clear LS
      go_region_with (go_at_call 31; refine C.out.mono ?_; rintro e w5 ⟨g5, c5, rfl, O5, B5⟩)
      go_wp2
      go_ret2
      exact ⟨B5.out, RtdIs.yes HX.out O5.out⟩
  · have EA := hid (AN.out (fun h1 h2 => hf ⟨h1, h2⟩))
    have hd : (decide (s < n) && decide (f s = x ∧ g s = y)) = false := by
      rw [Bool.and_eq_false_iff, decide_eq_false_iff_not, decide_eq_false_iff_not]
      by_cases h1 : s < n
      · exact .inr fun h2 => hf ⟨h1, h2⟩
      · exact .inl h1
    rw [hd] at S30
    have hl : X.length = n + 1 := by rw [EA.out]; simp [seg_len]; omega
    have HX := hid hl
    clear hf hd hl AN AO LO HI HO
    have i0 : (0 : Int) ≤ (s : Int) := by omega
    have i1 : (s : Int) ≤ (n : Int) := by omega
    have i2 : (s : Int) ≤ (cap : Int) := by omega
    have i3 : (n : Int) ≤ (cap : Int) := by omega
    by_cases hn : n = 20
    · have d0 : ((n : Int) == 20) = true := beq_iff_eq.2 (by omega)
      have HX3 := hid (show 20 < X.length by have := HX.out; omega)
      clear hn HX
      go_enter Try.func10, Try.ntmps10
      go_wp2_with (first
        | (go_at_call 29; refine (S30.out _ (then_ HL0.out (then_ h1 h2))).mono ?_; rintro e w3 ⟨rfl, h3⟩)
        | (go_at_call 28; refine (F19.out _).mono ?_; rintro e w2 ⟨rfl, h2⟩; have q4 := V1.out ⟨w2, then_ h1 h2⟩; have q5 := V2.out ⟨w2, then_ h1 h2⟩; have q6 := V3.out ⟨w2, then_ h1 h2⟩)
        | (go_at_call 12; refine F9.out.mono ?_; rintro e w1 ⟨rfl, h1⟩; have q1 := V1.out ⟨w1, h1⟩; have q2 := V2.out ⟨w1, h1⟩; have q3 := V3.out ⟨w1, h1⟩))
      all_goals (
        have B3 := hid (then_ HL0.out (then_ (then_ h1 h2) h3))
        have H3 := hid (HH.out.below B3.out)
        have q7 : w3.cell? ⟨w.heap.size, 0, none⟩ = some (.int .i64 x) := V1.out ⟨w3, then_ (then_ h1 h2) h3⟩
        have q8 : w3.cell? ⟨w.heap.size, 1, none⟩ = some (.int .i64 y) := V2.out ⟨w3, then_ (then_ h1 h2) h3⟩
        have q9 : w3.cell? ⟨w.heap.size, 2, none⟩ = some (.int .i64 z) := V3.out ⟨w3, then_ (then_ h1 h2) h3⟩
        clear h1 h2 h3 q1 q2 q3 q4 q5 q6)
      all_goals (
        go_ret2
        exact ⟨B3.out, RtdIs.no HX3.out⟩)
    · have d0 : ((n : Int) == 20) = false := beq_eq_false_iff_ne.2 (by omega)
      have HX2 := hid (show X.length ≤ 20 by have := HX.out; omega)
      clear hn HX
      go_enter Try.func10, Try.ntmps10
      go_wp2_with (first
        | (go_at_call 29; refine (S30.out _ (then_ HL0.out (then_ h1 h2))).mono ?_; rintro e w3 ⟨rfl, h3⟩)
        | (go_at_call 28; refine (F19.out _).mono ?_; rintro e w2 ⟨rfl, h2⟩; have q4 := V1.out ⟨w2, then_ h1 h2⟩; have q5 := V2.out ⟨w2, then_ h1 h2⟩; have q6 := V3.out ⟨w2, then_ h1 h2⟩)
        | (go_at_call 12; refine F9.out.mono ?_; rintro e w1 ⟨rfl, h1⟩; have q1 := V1.out ⟨w1, h1⟩; have q2 := V2.out ⟨w1, h1⟩; have q3 := V3.out ⟨w1, h1⟩))
      all_goals (
        have B3 := hid (then_ HL0.out (then_ (then_ h1 h2) h3))
        have H3 := hid (HH.out.below B3.out)
        have q7 : w3.cell? ⟨w.heap.size, 0, none⟩ = some (.int .i64 x) := V1.out ⟨w3, then_ (then_ h1 h2) h3⟩
        have q8 : w3.cell? ⟨w.heap.size, 1, none⟩ = some (.int .i64 y) := V2.out ⟨w3, then_ (then_ h1 h2) h3⟩
        have q9 : w3.cell? ⟨w.heap.size, 2, none⟩ = some (.int .i64 z) := V3.out ⟨w3, then_ (then_ h1 h2) h3⟩
        clear h1 h2 h3 q1 q2 q3 q4 q5 q6)
      · have m0 : n - s = 0 := by omega
        rw [m0] at EA
        have C := hid (cat_any (cap := s) x y z B3.out H3.out hs (some ⟨b, off, none⟩) 0 0 s (fun h => absurd h (by omega)) X EA.out.symm HX2.out)
        go_region_with (go_at_call 31; refine C.out.mono ?_; rintro e w5 ⟨g5, c5, rfl, O5, B5⟩)
        go_wp2
        go_ret2
        exact ⟨B5.out, RtdIs.yes HX2.out O5.out⟩
      · have LS := lies_seg (t0 := s) (m := n - s) H3.out (by omega)
        have C := hid (cat_any (cap := cap) x y z B3.out H3.out hs (some ⟨b, off + s * 3, none⟩) (n - s) (cap - s) s LS X EA.out.symm HX2.out)
        clear LS
        go_region_with (go_at_call 31; refine C.out.mono ?_; rintro e w5 ⟨g5, c5, rfl, O5, B5⟩)
        go_wp2
        go_ret2
        exact ⟨B5.out, RtdIs.yes HX2.out O5.out⟩
end Go.Proofs.Ythlejmofhcgkdaa
