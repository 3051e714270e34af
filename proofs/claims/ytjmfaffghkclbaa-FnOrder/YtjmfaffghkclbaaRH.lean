/- FnOrder: the walk: the law answers true at every code that came in, and writes nothing that was there. -/
import Derived.Test.YtjmfaffghkclbaaRG
import Derived.Test.YtjmfaffghkclbaaY
namespace Go.Proofs.Ytjmfaffghkclbaa
open Go.RowKit Go.Deep Go.Maps

set_option maxRecDepth 100000 in
set_option maxHeartbeats 8000000 in
theorem order_walk (a : Option Addr) (n cap : Nat) (w : World) (hb : BytesAt w a n) :
    Calls Try.prog 5 #[.slice a n cap] w fun e w' => e = .returned (.bool true) ∧ Below w.heap.size w w' := by
  have HB : Hid (BytesAt w a n) := hb
  clear hb
  go_enter Try.func5, Try.ntmps5
  go_wp2_with fail
  refine (big_any _ _ _ _).mono ?_
  rintro e w1 ⟨rfl, rfl⟩
  by_cases hn : 1048576 < n
  · have hn' : decide (1048576 < n) = true := by simpa using hn
    rw [hn']
    go_wp2
    go_ret
    exact ⟨rfl, Below.refl _ _⟩
  · have hn' : decide (1048576 < n) = false := by simpa using hn
    rw [hn']
    have hn1 : n ≤ 1048576 := by omega
    clear hn hn'
    go_wp2_with fail
    refine (drawLeq_any a n cap _ hn1 HB.out).mono ?_
    rintro e w2 ⟨b1, l1, a1, c1, b2, l2, a2, c2, rfl, k1, k2, C1, C2, E2⟩
    have XA : Blk ((w2.alloc (.cells #[.int .i64 b1, .slice a1 l1.length c1] 26)).alloc (.cells #[.int .i64 b2, .slice a2 l2.length c2] 26)) w2.heap.size (.cells #[.int .i64 b1, .slice a1 l1.length c1] 26) := (Blk.new _ _).alloc _
    have XB : Blk ((w2.alloc (.cells #[.int .i64 b1, .slice a1 l1.length c1] 26)).alloc (.cells #[.int .i64 b2, .slice a2 l2.length c2] 26)) (w2.heap.size + 1) (.cells #[.int .i64 b2, .slice a2 l2.length c2] 26) := by
      have := Blk.new (w2.alloc (.cells #[.int .i64 b1, .slice a1 l1.length c1] 26)) (.cells #[.int .i64 b2, .slice a2 l2.length c2] 26)
      simpa using this
    have K2 : Below w2.heap.size w2 ((w2.alloc (.cells #[.int .i64 b1, .slice a1 l1.length c1] 26)).alloc (.cells #[.int .i64 b2, .slice a2 l2.length c2] 26)) := ((Below.refl _ _).alloc (Nat.le_refl _) _).alloc (by simp) _
    go_wp2_with fail
    generalize (w2.alloc (.cells #[.int .i64 b1, .slice a1 l1.length c1] 26)).alloc (.cells #[.int .i64 b2, .slice a2 l2.length c2] 26) = W2 at *
    have E2' : Below w1.heap.size w1 W2 := E2.trans (K2.mono E2.size)
    refine (drawText_any a n cap _ hn1 (HB.out.below E2')).mono ?_
    rintro e w3 ⟨b3, l3, a3, c3, rfl, k3, C3, E3⟩
    have K3 := (Below.refl _ w3).alloc (Nat.le_refl _) (.cells #[.int .i64 b3, .slice a3 l3.length c3] 26)
    have XA3 := ((XA.below E3).below K3)
    have XB3 := ((XB.below E3).below K3)
    have XC3 := Blk.new w3 (.cells #[.int .i64 b3, .slice a3 l3.length c3] 26)
    have D1 := ((C1.below K2).below E3).below K3
    have D2 := ((C2.below K2).below E3).below K3
    have D3 := C3.below K3
    have E3' : Below w1.heap.size w1 (w3.alloc (.cells #[.int .i64 b3, .slice a3 l3.length c3] 26)) := (E2'.trans (E3.mono E2'.size)).alloc (Nat.le_trans E2'.size E3.size) _
    have Iab : Hid (∀ v : World, CatsAt v a1 l1.length (fstAt l1) (sndAt l1) → CatsAt v a2 l2.length (fstAt l2) (sndAt l2) → Calls Try.prog 32 #[.agg #[.int .i64 b1, .slice a1 l1.length c1], .agg #[.int .i64 b2, .slice a2 l2.length c2]] v fun e w' => e = .returned (.bool (leqB b1 l1.length (fstAt l1) (sndAt l1) b2 l2.length (fstAt l2) (sndAt l2))) ∧ Below v.heap.size v w') := fun v h0 h1 => implLeq_any _ _ _ _ _ _ _ _ _ _ _ _ _ (by unfold maxLen; omega) (by unfold maxLen; omega) h0 h1
    have Sab : Hid (∀ v : World, CatsAt v a1 l1.length (fstAt l1) (sndAt l1) → CatsAt v a2 l2.length (fstAt l2) (sndAt l2) → Calls Try.prog 34 #[.agg #[.int .i64 b1, .slice a1 l1.length c1], .agg #[.int .i64 b2, .slice a2 l2.length c2]] v fun e w' => e = .returned (.bool (leqB b1 l1.length (fstAt l1) (sndAt l1) b2 l2.length (fstAt l2) (sndAt l2))) ∧ Below v.heap.size v w') := fun v h0 h1 => specLeq_any _ _ _ _ _ _ _ _ _ _ _ _ _ (by unfold maxLen; omega) (by unfold maxLen; omega) h0 h1
    have Iaa : Hid (∀ v : World, CatsAt v a1 l1.length (fstAt l1) (sndAt l1) → Calls Try.prog 32 #[.agg #[.int .i64 b1, .slice a1 l1.length c1], .agg #[.int .i64 b1, .slice a1 l1.length c1]] v fun e w' => e = .returned (.bool (labOk b1 l1.length (fstAt l1) (sndAt l1))) ∧ Below v.heap.size v w') := fun v h0 => by
      have := implLeq_any b1 a1 l1.length c1 _ _ b1 a1 l1.length c1 _ _ v (by unfold maxLen; omega) (by unfold maxLen; omega) h0 h0
      rw [leqB_refl] at this
      exact this
    have Oka : Hid (∀ v : World, CatsAt v a1 l1.length (fstAt l1) (sndAt l1) → Calls Try.prog 35 #[.agg #[.int .i64 b1, .slice a1 l1.length c1]] v fun e w' => e = .returned (.bool (labOk b1 l1.length (fstAt l1) (sndAt l1))) ∧ Below v.heap.size v w') := fun v h0 => implOk_any _ _ _ _ _ _ _ (by unfold maxLen; omega) h0
    have Ibc : Hid (∀ v : World, CatsAt v a2 l2.length (fstAt l2) (sndAt l2) → CatsAt v a3 l3.length (fstAt l3) (sndAt l3) → Calls Try.prog 32 #[.agg #[.int .i64 b2, .slice a2 l2.length c2], .agg #[.int .i64 b3, .slice a3 l3.length c3]] v fun e w' => e = .returned (.bool (leqB b2 l2.length (fstAt l2) (sndAt l2) b3 l3.length (fstAt l3) (sndAt l3))) ∧ Below v.heap.size v w') := fun v h0 h1 => implLeq_any _ _ _ _ _ _ _ _ _ _ _ _ _ (by unfold maxLen; omega) (by unfold maxLen; omega) h0 h1
    have Iac : Hid (∀ v : World, CatsAt v a1 l1.length (fstAt l1) (sndAt l1) → CatsAt v a3 l3.length (fstAt l3) (sndAt l3) → Calls Try.prog 32 #[.agg #[.int .i64 b1, .slice a1 l1.length c1], .agg #[.int .i64 b3, .slice a3 l3.length c3]] v fun e w' => e = .returned (.bool (leqB b1 l1.length (fstAt l1) (sndAt l1) b3 l3.length (fstAt l3) (sndAt l3))) ∧ Below v.heap.size v w') := fun v h0 h1 => implLeq_any _ _ _ _ _ _ _ _ _ _ _ _ _ (by unfold maxLen; omega) (by unfold maxLen; omega) h0 h1
    have Iba : Hid (∀ v : World, CatsAt v a2 l2.length (fstAt l2) (sndAt l2) → CatsAt v a1 l1.length (fstAt l1) (sndAt l1) → Calls Try.prog 32 #[.agg #[.int .i64 b2, .slice a2 l2.length c2], .agg #[.int .i64 b1, .slice a1 l1.length c1]] v fun e w' => e = .returned (.bool (leqB b2 l2.length (fstAt l2) (sndAt l2) b1 l1.length (fstAt l1) (sndAt l1))) ∧ Below v.heap.size v w') := fun v h0 h1 => implLeq_any _ _ _ _ _ _ _ _ _ _ _ _ _ (by unfold maxLen; omega) (by unfold maxLen; omega) h0 h1
    have HT : Hid (leqB b1 l1.length (fstAt l1) (sndAt l1) b2 l2.length (fstAt l2) (sndAt l2) = true → leqB b2 l2.length (fstAt l2) (sndAt l2) b3 l3.length (fstAt l3) (sndAt l3) = true → leqB b1 l1.length (fstAt l1) (sndAt l1) b3 l3.length (fstAt l3) (sndAt l3) = true) := leqB_trans
    have HN : Hid (leqB b1 l1.length (fstAt l1) (sndAt l1) b2 l2.length (fstAt l2) (sndAt l2) = true → leqB b2 l2.length (fstAt l2) (sndAt l2) b1 l1.length (fstAt l1) (sndAt l1) = true → b1 = b2 ∧ l1 = l2) := leqB_anti
    generalize leqB b1 l1.length (fstAt l1) (sndAt l1) b2 l2.length (fstAt l2) (sndAt l2) = q1 at *
    generalize leqB b2 l2.length (fstAt l2) (sndAt l2) b3 l3.length (fstAt l3) (sndAt l3) = q2 at *
    generalize leqB b1 l1.length (fstAt l1) (sndAt l1) b3 l3.length (fstAt l3) (sndAt l3) = q3 at *
    generalize leqB b2 l2.length (fstAt l2) (sndAt l2) b1 l1.length (fstAt l1) (sndAt l1) = q4 at *
    generalize labOk b1 l1.length (fstAt l1) (sndAt l1) = t at *
    clear E2 E2' K2 E3 K3 C1 C2 C3 XA XB HB
    obtain ⟨x1, x2⟩ := XA3.two
    obtain ⟨x3, x4⟩ := XB3.two
    go_wp2_with fail
    generalize w3.alloc (.cells #[.int .i64 b3, .slice a3 l3.length c3] 26) = W3 at *
    clear x1 x2 x3 x4
    refine (Iab.out _ D1 D2).mono ?_
    rintro e w4 ⟨rfl, hb4⟩
    have XA4 : Blk w4.drew w2.heap.size (.cells #[.int .i64 b1, .slice a1 l1.length c1] 26) := XA3.below hb4.drew
    have XB4 : Blk w4.drew (w2.heap.size + 1) (.cells #[.int .i64 b2, .slice a2 l2.length c2] 26) := XB3.below hb4.drew
    have XC4 : Blk w4.drew w3.heap.size (.cells #[.int .i64 b3, .slice a3 l3.length c3] 26) := XC3.below hb4.drew
    have F1 : CatsAt w4.drew a1 l1.length (fstAt l1) (sndAt l1) := D1.below hb4.drew
    have F2 : CatsAt w4.drew a2 l2.length (fstAt l2) (sndAt l2) := D2.below hb4.drew
    have F3 : CatsAt w4.drew a3 l3.length (fstAt l3) (sndAt l3) := D3.below hb4.drew
    have E4 : Below w1.heap.size w1 w4.drew := (E3'.trans (hb4.mono E3'.size)).drew
    clear XA3 XB3 XC3 D1 D2 D3 E3' hb4 Iab
    obtain ⟨z1, z2⟩ : w4.cell? ⟨w2.heap.size, 0, none⟩ = _ ∧ w4.cell? ⟨w2.heap.size, 1, none⟩ = _ := XA4.two
    obtain ⟨z3, z4⟩ : w4.cell? ⟨w2.heap.size + 1, 0, none⟩ = _ ∧ w4.cell? ⟨w2.heap.size + 1, 1, none⟩ = _ := XB4.two
    cases q1 with
    | false =>
      go_wp2_with fail
      go_region_held3 (fun w' => w'.cell? ⟨w2.heap.size, 0, none⟩ = some (.int .i64 b1) ∧ w'.cell? ⟨w2.heap.size, 1, none⟩ = some (.slice a1 l1.length c1) ∧ w'.cell? ⟨w2.heap.size + 1, 0, none⟩ = some (.int .i64 b2) ∧ w'.cell? ⟨w2.heap.size + 1, 1, none⟩ = some (.slice a2 l2.length c2)) (go_keep)
        (first
          | (go_at_call 34; refine (Sab.out _ F1 F2).mono ?_; rintro e w5 ⟨rfl, hb5⟩; obtain ⟨y1, y2⟩ := (XA4.below hb5).two; obtain ⟨y3, y4⟩ := (XB4.below hb5).two)
          | (go_at_call 32; refine (Iaa.out _ (F1.below hb5)).mono ?_; rintro e w6 ⟨rfl, hb6⟩; obtain ⟨t1, t2⟩ := ((XA4.below hb5).below hb6).two; obtain ⟨t3, t4⟩ := ((XB4.below hb5).below hb6).two)
          | (go_at_call 35; refine (Oka.out _ ((F1.below hb5).below hb6)).mono ?_; rintro e w7 ⟨rfl, hb7⟩; obtain ⟨s1, s2⟩ := (((XA4.below hb5).below hb6).below hb7).two; obtain ⟨s3, s4⟩ := (((XB4.below hb5).below hb6).below hb7).two))
      have E7 : Below w1.heap.size w1 w7 := ((E4.trans (hb5.mono E4.size)).trans (hb6.mono (Nat.le_trans E4.size hb5.size))).trans (hb7.mono (Nat.le_trans E4.size (Nat.le_trans hb5.size hb6.size)))
      have XA7 := ((XA4.below hb5).below hb6).below hb7
      have XB7 := ((XB4.below hb5).below hb6).below hb7
      have XC7 := ((XC4.below hb5).below hb6).below hb7
      have G1 := ((F1.below hb5).below hb6).below hb7
      have G2 := ((F2.below hb5).below hb6).below hb7
      have G3 := ((F3.below hb5).below hb6).below hb7
      clear y1 y2 y3 y4 t1 t2 t3 t4 s1 s2 s3 s4 z1 z2 z3 z4 XA4 XB4 XC4 F1 F2 F3 E4 hb5 hb6 hb7 Sab Iaa Oka
      clear XA7 XB7 XC7 G1 G2 G3 HT HN Ibc Iac Iba
      go_wp2
      go_ret
      exact ⟨rfl, E7⟩
    | true =>
      go_wp2_with fail
      go_region_held3 (fun w' => w'.cell? ⟨w2.heap.size, 0, none⟩ = some (.int .i64 b1) ∧ w'.cell? ⟨w2.heap.size, 1, none⟩ = some (.slice a1 l1.length c1) ∧ w'.cell? ⟨w2.heap.size + 1, 0, none⟩ = some (.int .i64 b2) ∧ w'.cell? ⟨w2.heap.size + 1, 1, none⟩ = some (.slice a2 l2.length c2)) (go_keep)
        (first
          | (go_at_call 34; refine (Sab.out _ F1 F2).mono ?_; rintro e w5 ⟨rfl, hb5⟩; obtain ⟨y1, y2⟩ := (XA4.below hb5).two; obtain ⟨y3, y4⟩ := (XB4.below hb5).two)
          | (go_at_call 32; refine (Iaa.out _ (F1.below hb5)).mono ?_; rintro e w6 ⟨rfl, hb6⟩; obtain ⟨t1, t2⟩ := ((XA4.below hb5).below hb6).two; obtain ⟨t3, t4⟩ := ((XB4.below hb5).below hb6).two)
          | (go_at_call 35; refine (Oka.out _ ((F1.below hb5).below hb6)).mono ?_; rintro e w7 ⟨rfl, hb7⟩; obtain ⟨s1, s2⟩ := (((XA4.below hb5).below hb6).below hb7).two; obtain ⟨s3, s4⟩ := (((XB4.below hb5).below hb6).below hb7).two))
      have E7 : Below w1.heap.size w1 w7 := ((E4.trans (hb5.mono E4.size)).trans (hb6.mono (Nat.le_trans E4.size hb5.size))).trans (hb7.mono (Nat.le_trans E4.size (Nat.le_trans hb5.size hb6.size)))
      have XA7 := ((XA4.below hb5).below hb6).below hb7
      have XB7 := ((XB4.below hb5).below hb6).below hb7
      have XC7 := ((XC4.below hb5).below hb6).below hb7
      have G1 := ((F1.below hb5).below hb6).below hb7
      have G2 := ((F2.below hb5).below hb6).below hb7
      have G3 := ((F3.below hb5).below hb6).below hb7
      clear y1 y2 y3 y4 t1 t2 t3 t4 s1 s2 s3 s4 z1 z2 z3 z4 XA4 XB4 XC4 F1 F2 F3 E4 hb5 hb6 hb7 Sab Iaa Oka
      obtain ⟨x1, x2⟩ := XB7.two
      obtain ⟨x3, x4⟩ := XC7.two
      go_wp2_with fail
      refine (Ibc.out _ G2 G3).mono ?_
      rintro e w8 ⟨rfl, hb8⟩
      have E8 : Below w1.heap.size w1 w8 := E7.trans (hb8.mono E7.size)
      have XA8 := XA7.below hb8
      have XB8 := XB7.below hb8
      have XC8 := XC7.below hb8
      have H1 := G1.below hb8
      have H2 := G2.below hb8
      have H3 := G3.below hb8
      clear x1 x2 x3 x4 hb8 G1 G2 G3 XA7 XB7 XC7 E7
      have G1 := H1
      have G2 := H2
      have G3 := H3
      clear H1 H2 H3
      cases q2 with
      | false =>
        obtain ⟨x1, x2⟩ := XB8.two
        obtain ⟨x3, x4⟩ := XA8.two
        go_wp2_with fail
        refine (Iba.out _ G2 G1).mono ?_
        rintro e w9 ⟨rfl, hb9⟩
        have E9 : Below w1.heap.size w1 w9 := E8.trans (hb9.mono E8.size)
        have XA9 := XA8.below hb9
        have XB9 := XB8.below hb9
        have H1 := G1.below hb9
        have H2 := G2.below hb9
        clear x1 x2 x3 x4 hb9 G1 G2 G3
        cases q4 with
        | false =>
          go_wp2
          go_ret
          exact ⟨rfl, E9⟩
        | true =>
          obtain ⟨e1, e2⟩ := HN.out (by simp) (by simp)
          subst e1
          subst e2
          clear HN HT Iba Iac Ibc
          obtain ⟨x1, x2⟩ := XB9.two
          obtain ⟨x3, x4⟩ := XA9.two
          go_wp2_with fail
          refine (same_any _ _ _ _ _ _ _ _ _ (by omega) H1 H2).mono ?_
          rintro e w10 ⟨rfl, hb10⟩
          have E10 : Below w1.heap.size w1 w10 := E9.trans (hb10.mono E9.size)
          clear x1 x2 x3 x4
          go_wp2
          go_ret
          exact ⟨rfl, E10⟩
      | true =>
        have e3 := HT.out (by simp) (by simp)
        subst e3
        obtain ⟨x1, x2⟩ := XA8.two
        obtain ⟨x3, x4⟩ := XC8.two
        go_wp2_with fail
        refine (Iac.out _ G1 G3).mono ?_
        rintro e w9 ⟨rfl, hb9⟩
        have E9 : Below w1.heap.size w1 w9 := E8.trans (hb9.mono E8.size)
        have XA9 := XA8.below hb9
        have XB9 := XB8.below hb9
        have H1 := G1.below hb9
        have H2 := G2.below hb9
        have H3 := G3.below hb9
        clear x1 x2 x3 x4 hb9 G1 G2 G3 XA8 XB8 XC8 E8
        have G1 := H1
        have G2 := H2
        have G3 := H3
        clear H1 H2 H3
        obtain ⟨x1, x2⟩ := XB9.two
        obtain ⟨x3, x4⟩ := XA9.two
        go_wp2_with fail
        refine (Iba.out _ G2 G1).mono ?_
        rintro e w10 ⟨rfl, hb10⟩
        have E10 : Below w1.heap.size w1 w10 := E9.trans (hb10.mono E9.size)
        have XA10 := XA9.below hb10
        have XB10 := XB9.below hb10
        have H1 := G1.below hb10
        have H2 := G2.below hb10
        clear x1 x2 x3 x4 hb10 G1 G2 G3
        cases q4 with
        | false =>
          go_wp2
          go_ret
          exact ⟨rfl, E10⟩
        | true =>
          obtain ⟨e1, e2⟩ := HN.out (by simp) (by simp)
          subst e1
          subst e2
          clear HN HT Iba Iac Ibc
          obtain ⟨x1, x2⟩ := XB10.two
          obtain ⟨x3, x4⟩ := XA10.two
          go_wp2_with fail
          refine (same_any _ _ _ _ _ _ _ _ _ (by omega) H1 H2).mono ?_
          rintro e w11 ⟨rfl, hb11⟩
          have E11 : Below w1.heap.size w1 w11 := E10.trans (hb11.mono E10.size)
          clear x1 x2 x3 x4
          go_wp2
          go_ret
          exact ⟨rfl, E11⟩
end Go.Proofs.Ytjmfaffghkclbaa
