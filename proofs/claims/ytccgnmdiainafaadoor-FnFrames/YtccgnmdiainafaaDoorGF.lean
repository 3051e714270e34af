/- FnFrames, its walk. -/
import Derived.Test.YtccgnmdiainafaaDoorFRE
import Derived.Test.YtccgnmdiainafaaDoorGD
import Derived.Test.YtccgnmdiainafaaDoorGP
namespace Go.Proofs.YtccgnmdiainafaaDoor
open Go Go.RowKit Go.Deep Go.Maps Go.BigFrame

set_option maxRecDepth 100000 in
theorem sameTexts_true (a1 a2 : Option Addr) (n c1 c2 : Nat) (f : Nat → ByteArray) (w : World) (hn : n ≤ maxLen) (H1 : StrAt w a1 n f) (H2 : StrAt w a2 n f) :
    Calls Tryd.prog 8 #[.slice a1 n c1, .slice a2 n c2] w fun e w' => e = .returned (.bool true) ∧ Below w.heap.size w w' := by
  unfold maxLen at hn
  go_enter Tryd.func8, Tryd.ntmps8
  go_wp2
  go_loopw [5] (fun i wr => ∃ j : Nat, j ≤ n ∧ i = .int .i64 j ∧ Below w.heap.size w wr) (fun i _ => n - (intOf i).toNat)
  case atStart => exact ⟨0, Nat.zero_le _, rfl, Below.refl _ _⟩
  case round =>
    obtain ⟨j, hj, rfl, hB⟩ := hrel
    by_cases hlt : j < n
    · obtain ⟨b1, o1, rfl, hz1, hc1⟩ := H1 (by omega)
      obtain ⟨b2, o2, rfl, hz2, hc2⟩ := H2 (by omega)
      have u1 : ∀ p : Up wr, p.W.cell? ⟨b1, o1 + j, none⟩ = some (.string (f j)) := fun p => ((then_ hB p.h).cell (p := ⟨b1, _, none⟩) hz1).trans (hc1 j hlt)
      have u2 : ∀ p : Up wr, p.W.cell? ⟨b2, o2 + j, none⟩ = some (.string (f j)) := fun p => ((then_ hB p.h).cell (p := ⟨b2, _, none⟩) hz2).trans (hc2 j hlt)
      have i0 : (j : Int) < (n : Int) := by omega
      clear hc1 hc2 H1 H2
      go_wp2
      refine wp_region_quiet_up (by kernel_rfl) (by kernel_rfl) ?_
      repeat (go_big_quiet_step (fail))
      refine wpQuiet_nil ?_
      rintro _ ⟨p, rfl⟩
      go_wp2
      exact ⟨⟨j + 1, by omega, rfl, then_ hB p.h⟩, by simp [intOf]; omega⟩
    · clear H1 H2
      go_wp2
      go_ret
      exact ⟨rfl, hB⟩


theorem BytesAt.below {w W : World} {a : Option Addr} {n : Nat} (h : BytesAt w a n) (hb : Below w.heap.size w W) : BytesAt W a n := fun hn => by
  obtain ⟨b, off, e, hlt, hc⟩ := h hn
  exact ⟨b, off, e, Nat.lt_of_lt_of_le hlt hb.size, fun i hi => by
    obtain ⟨v, h1, h2⟩ := hc i hi
    exact ⟨v, (hb.cell (p := ⟨b, off + i, none⟩) hlt).trans h1, h2⟩⟩
theorem st_small (s : ByteArray) (j : Nat) : ∀ d ∈ (st s j).1, d.size ≤ 1000000 := by
  induction j with
  | zero => intro d hd; simp [st] at hd
  | succ j ih =>
    by_cases h : isFr s (st s j).2
    · rw [st_next h]
      intro d hd
      simp only [List.mem_append, List.mem_singleton] at hd
      rcases hd with hd | rfl
      · exact ih d hd
      · unfold dataAt; rw [ByteArray.size_extract]; have := h.2.1; omega
    · rw [show st s (j + 1) = st s j from if_neg h]; exact ih
theorem atS_small (s : ByteArray) (i : Nat) : (atS (taken s).1 i).size ≤ 1000000 := by
  unfold atS
  rcases h : (taken s).1[i]? with _ | d
  · exact Nat.zero_le _
  · exact st_small s s.size d (List.mem_of_getElem? h)
theorem encTo_size (X : List ByteArray) (h : ∀ i, (atS X i).size ≤ 1000000) (i : Nat) : (encTo X i).size ≤ i * 1000008 := by
  induction i with
  | zero => exact Nat.zero_le _
  | succ i ih =>
    have := frameB_size (h i)
    rw [encTo, ByteArray.size_append]
    change (frameB (X[i]?.getD ⟨#[]⟩)).size = _ at this
    rw [this]
    have := h i
    omega
theorem StrAt.take {w : World} {a : Option Addr} {X : List ByteArray} (j : Nat) (h : StrAt w a X.length (atS X)) : StrAt w a (X.take j).length (atS (X.take j)) := fun hn => by
  rw [List.length_take] at hn
  obtain ⟨b, off, e, hlt, hc⟩ := h (by omega)
  refine ⟨b, off, e, hlt, fun i hi => ?_⟩
  rw [List.length_take] at hi
  rw [hc i (by omega), atS, atS, List.getElem?_take_of_lt (by omega)]

set_option maxRecDepth 100000 in
set_option maxHeartbeats 4000000 in
theorem frames_walk (a : Option Addr) (n cap : Nat) (w : World) (hb : BytesAt w a n) (hT : Tab4 w) : Calls Tryd.prog 3 #[.slice a n cap] w fun e w' => e = .returned (.bool true) ∧ Below w.heap.size w w' := by
  by_cases hn : n ≤ 1048576
  · have hn' : decide (1048576 < n) = false := decide_eq_false (by omega)
    have P5 := hid (drawTake_any a n cap w hn hb)
    have P10 : Hid (∀ W, Below w.heap.size w W → Calls Tryd.prog 10 #[.slice a n cap] W fun e w' => ∃ s : ByteArray, e = .returned (.string s) ∧ s.size ≤ 11 ∧ Below W.heap.size W w') := fun W h => drawFrame_any a n cap W hn (hb.below h)
    have HT : Hid (∀ W, Below w.heap.size w W → Tab4 W) := fun W h => hT.below h
    clear hT hb
    go_enter Tryd.func3, Tryd.ntmps3
    go_wp2_with (first
      | (go_at_call 4; refine (big_any a n cap _).mono ?_; rintro e w1 ⟨rfl, hw1⟩; subst w1)
      | (go_at_call 5; refine P5.out.mono ?_; rintro e w1 ⟨s, rfl, hs, c1⟩))
    clear P5
    have P6 : Hid (∀ W, Below w.heap.size w W → ∀ t : ByteArray, t.size ≤ 1048576 → Calls Tryd.prog 6 #[.string t] W fun e w' => ResS W w' e (taken t).1 (taken t).2) := fun W hW t ht => (implTake_any t W ht (HT.out W hW)).mono fun _ _ t => ResS.of t
    have P7 : Hid (∀ W, Calls Tryd.prog 7 #[.string s] W fun e w' => ResS W w' e (taken s).1 (taken s).2) := fun W => (specTake_any s W (by omega)).mono fun _ _ t => ResS.of t
    have P9 : Hid (∀ W, Below w.heap.size w W → ∀ t : ByteArray, t.size ≤ 1048576 → Calls Tryd.prog 9 #[.string t] W fun e w' => e = .returned (.string (frameB t)) ∧ Below W.heap.size W w') := fun W hW t ht => implFrame_any t W ht (HT.out W hW)
    have gX : 8 * (taken s).1.length ≤ (taken s).2 ∧ (taken s).2 ≤ s.size := st_grow s s.size
    have SM := hid (atS_small s)
    have ENC : Hid (encTo (taken s).1 (taken s).1.length = s.extract 0 (taken s).2) := st_enc s s.size
    have MORE := hid (taken_more s)
    have FEW := hid (taken_few s)
    have Q6 := hid (fun W hW => P6.out W hW s (by omega))
    generalize (taken s).1 = X at *
    generalize (taken s).2 = K at *
    have ESZ := hid (encTo_size X SM.out)
    have hXm : X.length ≤ maxLen := by unfold maxLen; omega
    have k0 : decide (s.size < K) = false := decide_eq_false (by omega)
    refine (Q6.out _ c1).mono ?_
    rintro e w2 ⟨a2, b2, d2, rfl, s2, _, _, hcap, h2⟩
    have S2 := hid s2
    have B2 := hid (then_ c1 h2)
    clear s2 h2
    go_wp2_with (first
      | (go_at_call 7; refine (P7.out _).mono ?_; rintro e w3 ⟨a3, b3, d3, rfl, s3, _, _, _, h3⟩; have S3 := hid s3; replace S2 := hid (S2.out.below h3); have B3 := hid (then_ B2.out h3); clear s3 h3)
      | (go_at_call 8; refine (sameTexts_true a2 a3 X.length d2 d3 _ _ hXm S2.out S3.out).mono ?_; rintro e w4 ⟨rfl, h4⟩; replace S2 := hid (S2.out.below h4); have B4 := hid (then_ B3.out h4); clear h4))
    go_loopw [8, 9] (fun v i wr => ∃ j : Nat, j ≤ X.length ∧ i = .int .i64 j ∧ v = .string (encTo X j) ∧ Below w4.heap.size w4 wr) (fun _ i _ => X.length - (intOf i).toNat)
    case atStart => exact ⟨0, Nat.zero_le _, rfl, rfl, Below.refl _ _⟩
    case round =>
      obtain ⟨j, hj, rfl, rfl, hB⟩ := hrel
      by_cases hlt : j < X.length
      · obtain ⟨b, off, rfl, hz, hc⟩ := S2.out (by omega)
        have g1 : wr.cell? ⟨b, off + j, none⟩ = some (.string (atS X j)) := (hB.cell (p := ⟨b, _, none⟩) hz).trans (hc j hlt)
        have i1 : (j : Int) < (X.length : Int) := by omega
        have EN : Hid (encTo X (j + 1) = encTo X j ++ frameB (atS X j)) := rfl
        have z1 := ESZ.out (j + 1)
        rw [EN.out, ByteArray.size_append] at z1
        have Q9 := hid (fun W hW => P9.out W hW (atS X j) (Nat.le_trans (SM.out j) (by decide)))
        have BB := hid (then_ B4.out hB)
        clear hc
        generalize atS X j = D at *
        generalize encTo X j = E0 at *
        generalize frameB D = F at *
        have r1 : ¬ 9223372036854775807 < E0.size + F.size := by omega
        go_wp2_with (go_at_call 9; refine (Q9.out _ BB.out).mono ?_; rintro e w5 ⟨rfl, h5⟩)
        go_roundw
        case rel => exact ⟨j + 1, by omega, by go_num, by rw [EN.out], then_ hB h5⟩
        case measure => simp [intOf]; omega
      · have ej : j = X.length := by omega
        subst ej
        have hA : (encTo X X.length).size = K := by rw [ENC.out, ByteArray.size_extract]; omega
        have HA := hid ENC.out
        generalize encTo X X.length = A at *
        have B5 := hid (then_ B4.out hB)
        replace S2 := hid (S2.out.below hB)
        clear ENC ESZ SM P7 Q6 S3 B3 B4 hB
        go_wp2_with (go_at_call 10; refine (P10.out _ B5.out).mono ?_; rintro e w6 ⟨t, rfl, ht, h6⟩; have B6 := hid (then_ B5.out h6); replace S2 := hid (S2.out.below h6))
        clear h6 P10
        have fz : (frameB t).size = 8 + t.size := frameB_size (by omega)
        have M2 := MORE.out t (by omega)
        have Q9 := hid (fun W hW => P9.out W hW t (by omega))
        have z2 : (A ++ frameB t).size = K + 8 + t.size := by rw [ByteArray.size_append, hA, fz]; omega
        have Q2 := hid (fun W hW => P6.out W hW (A ++ frameB t) (by omega))
        rw [M2] at Q2
        have r1 : ¬ 9223372036854775807 < A.size + (frameB t).size := by omega
        have kk : n % (K + 1) ≤ K := by have := Nat.mod_lt n (show 0 < K + 1 by omega); omega
        obtain ⟨y, hy1, hy2⟩ := FEW.out (n % (K + 1)) kk
        have Q3 := hid (fun W hW => P6.out W hW (A.extract 0 (n % (K + 1))) (by rw [ByteArray.size_extract]; exact Nat.le_trans (Nat.sub_le _ _) (Nat.le_trans (Nat.min_le_left _ _) (Nat.le_trans kk (by omega)))))
        rw [hy1] at Q3
        have hl3 : (X.take y).length ≤ X.length := by rw [List.length_take]; omega
        have ST3 : Hid (∀ W, StrAt W a2 X.length (atS X) → StrAt W a2 (X.take y).length (atS (X.take y))) := fun W h => h.take y
        generalize (taken (A.extract 0 (n % (K + 1)))).2 = K3 at *
        generalize X.take y = Y at *
        have eA : s.extract 0 K = A := HA.out.symm
        have tS : Hid (∀ W b, StrAt W b (X ++ [t]).length (atS (X ++ [t])) → ∃ bb oo, b = some ⟨bb, oo, none⟩ ∧ bb < W.heap.size ∧ W.cell? ⟨bb, oo + X.length, none⟩ = some (.string t)) := fun W b h => by
          obtain ⟨bb, oo, e, hlt, hc⟩ := h (by simp)
          refine ⟨bb, oo, e, hlt, ?_⟩
          rw [hc X.length (by simp)]
          simp [atS]
        have l1 : (X ++ [t]).length = X.length + 1 := by simp
        generalize X ++ [t] = Z at *
        generalize frameB t = T at *
        clear MORE FEW P6 P9 HT M2 hy1 HA
        have m0 : ((n : Int) % ((K : Int) + 1)) = ((n % (K + 1) : Nat) : Int) := by rw [Int.natCast_emod]; rfl
        have m1 : ((n % (K + 1) : Nat) : Int) ≤ (K : Int) := by omega
        have e3 : ((K : Int) + 8 + (t.size : Int) == (K : Int) + (8 + (t.size : Int))) = true := by rw [Int.add_assoc]; simp
        generalize n % (K + 1) = k at *
        go_wp2_with (first
          | (go_at_call 9; have mk' := mk; refine (Q9.out _ B9.out).mono ?_; rintro e w10 ⟨rfl, h10⟩; have B10 := hid (then_ B9.out h10); replace S2 := hid (S2.out.below h10); replace S9 := hid (S9.out.below h10); clear h10)
          | (go_at_call 9; refine (Q9.out _ B6.out).mono ?_; rintro e w7 ⟨rfl, h7⟩; have B7 := hid (then_ B6.out h7); replace S2 := hid (S2.out.below h7); clear h7)
          | (go_at_call 6; have mk' := B8; refine (Q3.out _ B8.out).mono ?_; rintro e w9 ⟨a9, b9, d9, rfl, s9, _, _, _, h9⟩; have S9 := hid s9; have B9 := hid (then_ B8.out h9); replace S2 := hid (S2.out.below h9); have cc := (h9.cell (p := ⟨bb, oo + X.length, none⟩) bl).trans C8.out; have mk : True := trivial; clear s9 h9)
          | (go_at_call 6; refine (Q2.out _ B7.out).mono ?_; rintro e w8 ⟨a8, b8, d8, rfl, s8, _, _, _, h8⟩; obtain ⟨bb, oo, rfl, bl, c8⟩ := tS.out _ _ s8; have C8 := hid c8; have B8 := hid (then_ B7.out h8); replace S2 := hid (S2.out.below h8); clear s8 h8 c8)
          | (go_at_call 8; refine (sameTexts_true a9 a2 Y.length d9 d2 _ _ (Nat.le_trans hl3 hXm) S9.out (ST3.out _ S2.out)).mono ?_; rintro e w11 ⟨rfl, h11⟩; have B11 := hid (then_ B10.out h11); clear h11))
        go_ret
        exact ⟨rfl, B11.out⟩
  · have hn' : decide (1048576 < n) = true := decide_eq_true (by omega)
    clear hT hb
    go_enter Tryd.func3, Tryd.ntmps3
    go_wp2_with (go_at_call 4; refine (big_any a n cap _).mono ?_; rintro e w1 ⟨rfl, hw1⟩; subst w1)
    go_ret
    exact ⟨rfl, Below.refl _ _⟩
end Go.Proofs.YtccgnmdiainafaaDoor
