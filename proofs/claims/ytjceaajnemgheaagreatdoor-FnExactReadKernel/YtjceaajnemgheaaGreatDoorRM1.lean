/- Marks in a kernel that a call made: threads. -/
import Derived.Test.YtjceaajnemgheaaGreatDoorZ18
import Derived.Test.YtjceaajnemgheaaGreatDoorZ6
namespace Go.Proofs.YtjceaajnemgheaaGreatDoor
open Go Go.RowKit Go.Deep Go.Maps

theorem Touched.refl (H : Nat → Prop) (w : World) : Touched H w w := ⟨rfl, rfl, rfl, Nat.le_refl _, fun _ _ _ => rfl⟩
theorem Touched.of_below {H : Nat → Prop} {w w' : World} (h : Below w.heap.size w w') : Touched H w w' := ⟨h.os, h.tape, h.output, h.size, fun k hk _ => h.block k hk⟩
theorem Touched.put {H : Nat → Prop} {w w' : World} {g : Nat} (h : Touched H w w') (hg : H g) (i : Nat) (v : Value) : Touched H w (w'.setCell ⟨g, i, none⟩ v) :=
  ⟨h.os, h.tape, h.output, by simpa [World.setCell] using h.size, fun k hk hn => (Below.heap_setCell _ _ _ _ (fun (e : k = g) => hn (by rw [e]; exact hg))).trans (h.block k hk hn)⟩
theorem Touched.row {H : Nat → Prop} {w w' : World} {b ty m : Nat} {F : Nat → Value} (h : Touched H w w') (hr : w.rowIs b ty m F) (hn : ¬ H b) : w'.rowIs b ty m F := hr.of_block (h.block b hr.lt hn)
theorem markCat_t (c : CatL) (B : Nat) (k0 : Int) (w : World) (hn : c.n ≤ 1048576) (h0 : 0 ≤ k0) (h1 : k0 ≤ 1000000000000) (hr : c.new B w) :
    Calls Tryz.prog 37 #[.slice c.a c.n c.k, .int .i64 k0] w fun e w' => e = .returned (.int .i64 (k0 + 2 * c.n)) ∧ Touched (beg c.a c.n) w w' ∧ CatsAt w' c.a c.n (mk1 k0) (mk2 k0) := by
  obtain ⟨b, hR, hF⟩ : ∃ b, RowAt w c.a b c.n ∧ (¬ 0 < c.n → w.heap.size ≤ b) := by
    by_cases h : 0 < c.n
    · obtain ⟨b, m, F, e, _, h2, h3⟩ := hr.2 h
      exact ⟨b, fun _ => ⟨e, m, F, h2, h3⟩, fun h' => absurd h h'⟩
    · exact ⟨w.heap.size, fun h' => absurd h' h, fun _ => Nat.le_refl _⟩
  refine (markCatS_any c.a b c.n c.k k0 w hn h0 h1 hR).mono ?_
  rintro e w' ⟨he, hg, hc⟩
  refine ⟨he, ⟨hg.os, hg.tape, hg.output, hg.size, fun k hk hn' => hg.block k hk (fun e => ?_)⟩, hc⟩
  have e := Option.some.inj e
  subst e
  by_cases h : 0 < c.n
  · exact hn' ⟨h, (hR h).1⟩
  · have := hF h
    omega
def ThrV.hs (g : ThrV) (b : Nat) : Prop := beg g.c1.a g.c1.n b ∨ beg g.c2.a g.c2.n b ∨ beg g.own.a g.own.n b
def ThrV.ml (t : ThrV) : Int := 4 + 2 * t.c1.n + 2 * t.c2.n + t.own.n
def tSt (T : Nat → ThrV) (k0 : Int) : Nat → Int
  | 0 => k0
  | j + 1 => tSt T k0 j + (T j).ml
structure TNum (G : Nat → Value) (j : Nat) (t : ThrV) (s : Int) : Prop where
  n0 : G (j * 7) = .int .i64 s
  n1 : G (j * 7 + 1) = .int .i64 (s + 1)
  n3 : G (j * 7 + 3) = .int .i64 (s + 2 + 2 * t.c1.n)
  n6 : G (j * 7 + 6) = .int .i64 (s + 3 + 2 * t.c1.n + 2 * t.c2.n + t.own.n)
structure TMark (w : World) (t : ThrV) (s : Int) : Prop where
  c1 : CatsAt w t.c1.a t.c1.n (mk1 (s + 2)) (mk2 (s + 2))
  c2 : CatsAt w t.c2.a t.c2.n (mk1 (s + 3 + 2 * t.c1.n)) (mk2 (s + 3 + 2 * t.c1.n))
  ow : IntsAt w t.own.a t.own.n (mkI (s + 3 + 2 * t.c1.n + 2 * t.c2.n))
def ThrV.begs (t : ThrV) : Prop := (0 < t.c1.n → ∃ d, beg t.c1.a t.c1.n d) ∧ (0 < t.c2.n → ∃ d, beg t.c2.a t.c2.n d) ∧ (0 < t.own.n → ∃ d, beg t.own.a t.own.n d)
theorem TMark.touched {w w' : World} {t : ThrV} {s : Int} {H : Nat → Prop} (h : TMark w t s) (hb : t.begs) (k : Touched H w w') (hn : ∀ b, t.hs b → ¬ H b) : TMark w' t s :=
  ⟨h.c1.touched hb.1 k (fun b e => hn b (.inl e)), h.c2.touched hb.2.1 k (fun b e => hn b (.inr (.inl e))), h.ow.touched hb.2.2 k (fun b e => hn b (.inr (.inr e)))⟩
theorem ThrV.new.touched {B : Nat} {w w' : World} {t : ThrV} {H : Nat → Prop} (h : t.new B w) (k : Touched H w w') (hn : ∀ b, t.hs b → ¬ H b) : t.new B w' :=
  ⟨h.1.touched k (fun b e => hn b (.inl e)), h.2.1.touched k (fun b e => hn b (.inr (.inl e))), h.2.2.touched k (fun b e => hn b (.inr (.inr e)))⟩
theorem ThrV.new.begs {B : Nat} {w : World} {t : ThrV} (h : t.new B w) : t.begs := ⟨h.1.begins, h.2.1.begins, h.2.2.begins⟩
structure TSep (g n : Nat) (T : Nat → ThrV) : Prop where
  a12 : ∀ j, j < n → Apt (T j).c1.a (T j).c1.n (T j).c2.a (T j).c2.n
  a13 : ∀ j, j < n → Apt (T j).c1.a (T j).c1.n (T j).own.a (T j).own.n
  a23 : ∀ j, j < n → Apt (T j).c2.a (T j).c2.n (T j).own.a (T j).own.n
  ne : ∀ i j, i < n → j < n → i ≠ j → ∀ b, (T i).hs b → ¬ (T j).hs b
  g : ∀ j, j < n → ¬ (T j).hs g
def TSmall (n : Nat) (T : Nat → ThrV) : Prop := ∀ j, j < n → (T j).c1.n ≤ 20 ∧ (T j).c2.n ≤ 20 ∧ (T j).own.n ≤ 20
theorem tSt_le {T : Nat → ThrV} {k0 : Int} {n : Nat} (h : TSmall n T) : ∀ j, j ≤ n → k0 ≤ tSt T k0 j ∧ tSt T k0 j ≤ k0 + 200 * j
  | 0, _ => ⟨Int.le_refl _, by simp [tSt]⟩
  | j + 1, hj => by
    have := tSt_le (k0 := k0) h j (by omega)
    obtain ⟨h1, h2, h3⟩ := h j (by omega)
    show k0 ≤ tSt T k0 j + (T j).ml ∧ tSt T k0 j + (T j).ml ≤ _
    unfold ThrV.ml
    omega
structure TInv (g m n B : Nat) (T : Nat → ThrV) (k0 : Int) (w wr : World) (j : Nat) : Prop where
  t : Touched (fun b => b = g ∨ ∃ i, i < j ∧ (T i).hs b) w wr
  r : ∃ G, wr.rowIs g 41 m G ∧ SlT G n T ∧ ∀ i, i < j → TNum G i (T i) (tSt T k0 i)
  d : ∀ i, i < j → TMark wr (T i) (tSt T k0 i)
theorem TNum.set {G : Nat → Value} {i j : Nat} {T : Nat → ThrV} {s : Int} (h : TNum G i (T i) s) (hij : i ≠ j) (r : Nat) (hr : r < 7) (v : Value) : TNum (fun q => if q = j * 7 + r then v else G q) i (T i) s :=
  ⟨by rw [if_neg (by omega)]; exact h.n0, by rw [if_neg (by omega)]; exact h.n1, by rw [if_neg (by omega)]; exact h.n3, by rw [if_neg (by omega)]; exact h.n6⟩
set_option maxRecDepth 100000 in
set_option maxHeartbeats 8000000 in
theorem markThreads_m (g n cap m B : Nat) (T : Nat → ThrV) (k0 : Int) (w : World) (hn : n ≤ 1000) (hm : n * 7 ≤ m) (h0 : 1 ≤ k0) (h1 : k0 ≤ 1000000) (hS : TSep g n T) (hz : TSmall n T) (hT : ∀ j, j < n → (T j).new B w) (hR : ∃ G, w.rowIs g 41 m G ∧ SlT G n T) :
    Calls Tryz.prog 18 #[.slice (some ⟨g, 0, none⟩) n cap, .int .i64 k0] w fun e w' => e = .returned (.int .i64 (tSt T k0 n)) ∧ TInv g m n B T k0 w w' n := by
  have HS := hid hS
  have HT := hid hT
  have HZ := hid hz
  have I0 : Hid (TInv g m n B T k0 w w 0) := hid ⟨Touched.refl _ _, by obtain ⟨G, r, s⟩ := hR; exact ⟨G, r, s, fun i hi => absurd hi (Nat.not_lt_zero _)⟩, fun i hi => absurd hi (Nat.not_lt_zero _)⟩
  clear hS hT hz hR
  go_enter Tryz.func18, Tryz.ntmps18
  go_wp2
  go_loopw [1, 5] (fun kk i wr => ∃ j : Nat, j ≤ n ∧ i = .int .i64 j ∧ kk = .int .i64 (tSt T k0 j) ∧ Hid (TInv g m n B T k0 w wr j)) (fun _ i _ => n - (intOf i).toNat)
  case atStart => exact ⟨0, Nat.zero_le _, rfl, rfl, I0⟩
  case round =>
    clear I0
    obtain ⟨j, hj, rfl, rfl, HI⟩ := hrel
    obtain ⟨x0, x1⟩ := tSt_le (k0 := k0) HZ.out j hj
    by_cases hlt : j < n
    · have i1 : (j : Int) < (n : Int) := by omega
      obtain ⟨G, hR, hSl, hNu⟩ := HI.out.r
      obtain ⟨s1, s2, s3⟩ := hSl j hlt
      obtain ⟨k1, k2, k3⟩ := HZ.out j hlt
      have NJ := hid ((HT.out j hlt).touched HI.out.t (fun b hb hh => by
        rcases hh with e | ⟨i, hi, h⟩
        · subst e; exact HS.out.g j hlt hb
        · exact HS.out.ne i j (by omega) hlt (by omega) b h hb))
      have ng := HS.out.g j hlt
      have a12 := HS.out.a12 j hlt
      have a13 := HS.out.a13 j hlt
      have a23 := HS.out.a23 j hlt
      have es : Hid (tSt T k0 (j + 1) = tSt T k0 j + (T j).ml) := hid rfl
      have KEEP := hid HI.out.d
      have TB0 := hid HI.out.t
      generalize tSt T k0 j = x at *
      -- the first two numbers
      have z0 := hR.cell (i := j * 7) (by omega)
      have z1 := hR.cell (i := j * 7 + 1) (by omega)
      have z2 := hR.cell (i := j * 7 + 2) (by omega)
      rw [s1] at z2
      have zf := hR.frozen
      have RG : Hid (∃ G1, ((wr.setCell ⟨g, j * 7, none⟩ (.int .i64 x)).setCell ⟨g, j * 7 + 1, none⟩ (.int .i64 (x + 1))).rowIs g 41 m G1 ∧ SlT G1 n T ∧ (∀ i, i < j → TNum G1 i (T i) (tSt T k0 i)) ∧ G1 (j * 7) = .int .i64 x ∧ G1 (j * 7 + 1) = .int .i64 (x + 1)) := hid ⟨_, (hR.set (j * 7) (.int .i64 x)).set (j * 7 + 1) (.int .i64 (x + 1)), (hSl.set j 0 (by omega) (.int .i64 x)).set j 1 (by omega) (.int .i64 (x + 1)), fun i hi => ((hNu i hi).set (by omega) 0 (by omega) _).set (by omega) 1 (by omega) _, by rw [if_neg (by omega), if_pos rfl], by rw [if_pos rfl]⟩
      have U1 := hid (((Touched.refl (fun b => b = g) wr).put rfl (j * 7) (.int .i64 x)).put rfl (j * 7 + 1) (.int .i64 (x + 1)))
      have N1 := hid (NJ.out.touched U1.out (fun b hb e => by subst e; exact ng hb))
      have C1 := hid (markCat_t (T j).c1 B (x + 1 + 1) _ (by omega) (by omega) (by omega) N1.out.1)
      clear HI hSl hNu s1 s2 s3
      go_wp2_with fail
      clear z0 z1 z2 zf
      generalize (wr.setCell ⟨g, j * 7, none⟩ (.int .i64 x)).setCell ⟨g, j * 7 + 1, none⟩ (.int .i64 (x + 1)) = W1 at *
      refine C1.out.mono ?_
      rintro e w2 ⟨rfl, t2, cm1⟩
      have CM1 := hid cm1
      have U2 := hid ((U1.out.mono (H' := fun b => b = g ∨ (T j).hs b) (fun b e => .inl e)).trans (t2.mono (fun b e => .inr (.inl e))))
      obtain ⟨G2, R2', S2, M2, p0, p1⟩ := RG.out
      have R2 := t2.row R2' (fun e => ng (.inl e))
      clear R2'
      have N2 := hid (N1.out.2.1.touched t2 (fun b e1 e2 => a12 b e2 e1))
      have N3 := hid (N1.out.2.2.touched t2 (fun b e1 e2 => a13 b e2 e1))
      have B1 := N1.out.1.begins
      have B2 := N1.out.2.1.begins
      have B3 := N1.out.2.2.begins
      clear RG U1 N1 C1 t2 cm1
      generalize hy : x + 1 + 1 + 2 * ((T j).c1.n : Int) = y at *
      have y0 : x ≤ y ∧ y ≤ x + 42 := by omega
      have HY := hid hy
      clear hy
      obtain ⟨s1, s2, s3⟩ := S2 j hlt
      have z3 := R2.cell (i := j * 7 + 3) (by omega)
      have z4 := R2.cell (i := j * 7 + 4) (by omega)
      rw [s2] at z4
      have zf := R2.frozen
      have RG : Hid (∃ G1, (w2.setCell ⟨g, j * 7 + 3, none⟩ (.int .i64 y)).rowIs g 41 m G1 ∧ SlT G1 n T ∧ (∀ i, i < j → TNum G1 i (T i) (tSt T k0 i)) ∧ G1 (j * 7) = .int .i64 x ∧ G1 (j * 7 + 1) = .int .i64 (x + 1) ∧ G1 (j * 7 + 3) = .int .i64 y) := hid ⟨_, R2.set (j * 7 + 3) (.int .i64 y), S2.set j 3 (by omega) (.int .i64 y), fun i hi => (M2 i hi).set (by omega) 3 (by omega) _, by rw [if_neg (by omega)]; exact p0, by rw [if_neg (by omega)]; exact p1, by rw [if_pos rfl]⟩
      have V3 := hid ((Touched.refl (fun b => b = g) w2).put rfl (j * 7 + 3) (.int .i64 y))
      have C3 := hid (markCat_t (T j).c2 B (y + 1) _ (by omega) (by omega) (by omega) (N2.out.touched V3.out (fun b hb e => by subst e; exact ng (.inr (.inl hb)))))
      clear R2 S2 M2 p0 p1 s1 s2 s3
      go_wp2_with fail
      clear z3 z4 zf
      generalize w2.setCell ⟨g, j * 7 + 3, none⟩ (.int .i64 y) = W3 at *
      refine C3.out.mono ?_
      rintro e w4 ⟨rfl, t4, cm2⟩
      have CM2 := hid cm2
      have CM1b := hid ((CM1.out.touched B1 V3.out (fun b hb e => by subst e; exact ng (.inl hb))).touched B1 t4 (fun b e1 e2 => a12 b e1 e2))
      have U4 := hid ((U2.out.trans (V3.out.mono (fun b e => .inl e))).trans (t4.mono (fun b e => .inr (.inr (.inl e)))))
      obtain ⟨G4, R4', S4, M4, p0, p1, p3⟩ := RG.out
      have R4 := t4.row R4' (fun e => ng (.inr (.inl e)))
      clear R4'
      have N4 := hid ((N3.out.touched V3.out (fun b hb e => by subst e; exact ng (.inr (.inr hb)))).touched t4 (fun b e1 e2 => a23 b e2 e1))
      clear RG C3 V3 U2 N2 N3 CM1 t4 cm2
      generalize hv : y + 1 + 2 * ((T j).c2.n : Int) = v at *
      have v0 : x ≤ v ∧ v ≤ x + 90 := by omega
      have HV := hid hv
      clear hv
      obtain ⟨s1, s2, s3⟩ := S4 j hlt
      have z5 := R4.cell (i := j * 7 + 5) (by omega)
      rw [s3] at z5
      have C5 := hid (markInt_t (T j).own B v _ (by omega) (by omega) (by omega) N4.out)
      clear s1 s2 s3
      go_wp2_with fail
      refine C5.out.mono ?_
      rintro e w6 ⟨rfl, t6, cm3⟩
      have CM3 := hid cm3
      have CM1c := hid (CM1b.out.touched B1 t6 (fun b e1 e2 => a13 b e1 e2))
      have CM2c := hid (CM2.out.touched B2 t6 (fun b e1 e2 => a23 b e1 e2))
      have U6 := hid (U4.out.trans (t6.mono (fun b e => .inr (.inr (.inr e)))))
      have R6 := t6.row R4 (fun e => ng (.inr (.inr e)))
      clear z5 R4 C5 U4 CM1b CM2 N4 t6 cm3
      generalize hu : v + ((T j).own.n : Int) = u at *
      have u0 : x ≤ u ∧ u ≤ x + 120 := by omega
      have HU := hid hu
      clear hu
      have z6 := R6.cell (i := j * 7 + 6) (by omega)
      have zf := R6.frozen
      have V7 := hid ((Touched.refl (fun b => b = g) w6).put rfl (j * 7 + 6) (.int .i64 u))
      have U7 := hid (U6.out.trans (V7.out.mono (fun b e => .inl e)))
      have ng7 : ∀ b, (T j).hs b → ¬ b = g := fun b hb e => by subst e; exact ng hb
      have FIN : Hid (TInv g m n B T k0 w (w6.setCell ⟨g, j * 7 + 6, none⟩ (.int .i64 u)) (j + 1)) := hid (by
        have hyy := HY.out
        have hvv := HV.out
        have huu := HU.out
        have exj : tSt T k0 j = x := by
          have := es.out
          show tSt T k0 j = x
          have e2 : tSt T k0 (j + 1) = tSt T k0 j + (T j).ml := rfl
          omega
        refine ⟨(TB0.out.mono (fun b e => ?_)).trans (U7.out.mono (fun b e => ?_)), ⟨_, R6.set (j * 7 + 6) (.int .i64 u), S4.set j 6 (by omega) (.int .i64 u), fun i hi => ?_⟩, fun i hi => ?_⟩
        · rcases e with e | ⟨i, hi, h⟩
          · exact .inl e
          · exact .inr ⟨i, by omega, h⟩
        · rcases e with e | h
          · exact .inl e
          · exact .inr ⟨j, by omega, h⟩
        · by_cases e : i = j
          · subst e
            rw [exj]
            refine ⟨?_, ?_, ?_, ?_⟩
            · rw [if_neg (by omega)]; exact p0
            · rw [if_neg (by omega)]; exact p1
            · rw [if_neg (by omega), p3]; congr 1; omega
            · rw [if_pos rfl]; congr 1; omega
          · exact (M4 i (by omega)).set e 6 (by omega) _
        · by_cases e : i = j
          · subst e
            rw [exj]
            have e1 : x + 1 + 1 = x + 2 := by omega
            have e2 : y + 1 = x + 3 + 2 * ((T i).c1.n : Int) := by omega
            have e3 : v = x + 3 + 2 * ((T i).c1.n : Int) + 2 * ((T i).c2.n : Int) := by omega
            have d1 := CM1c.out
            have d2 := CM2c.out
            have d3 := CM3.out
            rw [e1] at d1
            rw [e2] at d2
            rw [e3] at d3
            exact ⟨d1.touched B1 V7.out (fun b hb => ng7 b (.inl hb)), d2.touched B2 V7.out (fun b hb => ng7 b (.inr (.inl hb))), d3.touched B3 V7.out (fun b hb => ng7 b (.inr (.inr hb)))⟩
          · refine (KEEP.out i (by omega)).touched ?_ U7.out (fun b hb h => ?_)
            · exact (HT.out i (by omega)).begs
            · rcases h with rfl | h
              · exact HS.out.g i (by omega) hb
              · exact HS.out.ne i j (by omega) hlt e b hb h)
      have eu : u + 1 = tSt T k0 (j + 1) := by
        have := es.out
        have := HY.out
        have := HV.out
        have := HU.out
        unfold ThrV.ml at *
        omega
      clear KEEP TB0 es
      go_wp2
      exact ⟨⟨j + 1, by omega, by go_num, by first | rfl | rw [eu], FIN⟩, by simp [intOf]; omega⟩
    · have ej : n = j := by omega
      have i1 : ¬ (j : Int) < (n : Int) := by omega
      subst ej
      go_wp2
      go_ret
      exact ⟨rfl, HI.out⟩
set_option maxRecDepth 100000 in
set_option maxHeartbeats 8000000 in
theorem heldThreads_h (g n cap m : Nat) (T : Nat → ThrV) (k0 : Int) (w : World) (hn : n ≤ 1000) (hm : n * 7 ≤ m) (h0 : 1 ≤ k0) (h1 : k0 ≤ 1000000) (hz : TSmall n T) (hR : ∃ G, w.rowIs g 41 m G ∧ SlT G n T ∧ ∀ i, i < n → TNum G i (T i) (tSt T k0 i)) (hd : ∀ i, i < n → TMark w (T i) (tSt T k0 i)) :
    Calls Tryz.prog 20 #[.slice (some ⟨g, 0, none⟩) n cap, .int .i64 k0] w fun e w' => e = .returned (.int .i64 (tSt T k0 n)) ∧ w' = w := by
  have HZ := hid hz
  have HD := hid hd
  have HR := hid hR
  clear hz hd hR
  go_enter Tryz.func20, Tryz.ntmps20
  go_wp2
  go_loopw [1, 5] (fun kk i wr => ∃ j : Nat, j ≤ n ∧ i = .int .i64 j ∧ kk = .int .i64 (tSt T k0 j) ∧ wr = w) (fun _ i _ => n - (intOf i).toNat)
  case atStart => exact ⟨0, Nat.zero_le _, rfl, rfl, rfl⟩
  case round =>
    obtain ⟨j, hj, rfl, rfl, ew⟩ := hrel
    subst ew
    obtain ⟨x0, x1⟩ := tSt_le (k0 := k0) HZ.out j hj
    by_cases hlt : j < n
    · have i1 : (j : Int) < (n : Int) := by omega
      obtain ⟨G, hRw, hSl, hNu⟩ := HR.out
      obtain ⟨s1, s2, s3⟩ := hSl j hlt
      obtain ⟨k1, k2, k3⟩ := HZ.out j hlt
      obtain ⟨n0, n1, n3, n6⟩ := hNu j hlt
      obtain ⟨d1, d2, d3⟩ := HD.out j hlt
      have es : Hid (tSt T k0 (j + 1) = tSt T k0 j + (T j).ml) := hid rfl
      have z0 := hRw.cell (i := j * 7) (by omega)
      have z1 := hRw.cell (i := j * 7 + 1) (by omega)
      have z2 := hRw.cell (i := j * 7 + 2) (by omega)
      have z3 := hRw.cell (i := j * 7 + 3) (by omega)
      have z4 := hRw.cell (i := j * 7 + 4) (by omega)
      have z5 := hRw.cell (i := j * 7 + 5) (by omega)
      have z6 := hRw.cell (i := j * 7 + 6) (by omega)
      rw [n0] at z0
      rw [n1] at z1
      rw [s1] at z2
      rw [n3] at z3
      rw [s2] at z4
      rw [s3] at z5
      rw [n6] at z6
      generalize tSt T k0 j = x at *
      have e1 : x + 1 + 1 = x + 2 := by omega
      have C1 := hid (heldCatS_any (T j).c1.a (T j).c1.n (T j).c1.k (x + 1 + 1) wr (by omega) (by omega) (by omega) (by rw [e1]; exact d1))
      have e2 : x + 1 + 1 + 2 * ((T j).c1.n : Int) = x + 2 + 2 * ((T j).c1.n : Int) := by omega
      have C2 := hid (heldCatS_any (T j).c2.a (T j).c2.n (T j).c2.k (x + 2 + 2 * ((T j).c1.n : Int) + 1) wr (by omega) (by omega) (by omega) (by rw [show x + 2 + 2 * ((T j).c1.n : Int) + 1 = x + 3 + 2 * ((T j).c1.n : Int) from by omega]; exact d2))
      have C3 := hid (heldInt64S_any (T j).own.a (T j).own.n (T j).own.k (x + 3 + 2 * ((T j).c1.n : Int) + 2 * ((T j).c2.n : Int)) wr (by omega) (by omega) (by omega) d3)
      unfold CatL.val at z2 z4
      unfold IntL.val at z5
      clear hRw hSl hNu s1 s2 s3 n0 n1 n3 n6 d1 d2 d3 e1
      go_wp2_with fail
      refine C1.out.mono ?_
      rintro e w2 ⟨rfl, rfl⟩
      rw [e2]
      have p1 : ¬ x + 2 + 2 * ((T j).c1.n : Int) < 0 := by omega
      clear C1 e2
      go_wp2_with fail
      refine C2.out.mono ?_
      rintro e w3 ⟨rfl, rfl⟩
      have e3 : x + 2 + 2 * ((T j).c1.n : Int) + 1 + 2 * ((T j).c2.n : Int) = x + 3 + 2 * ((T j).c1.n : Int) + 2 * ((T j).c2.n : Int) := by omega
      rw [e3]
      have p2 : ¬ x + 3 + 2 * ((T j).c1.n : Int) + 2 * ((T j).c2.n : Int) < 0 := by omega
      clear C2 e3
      go_wp2_with fail
      refine C3.out.mono ?_
      rintro e w4 ⟨rfl, rfl⟩
      have p3 : ¬ x + 3 + 2 * ((T j).c1.n : Int) + 2 * ((T j).c2.n : Int) + ((T j).own.n : Int) < 0 := by omega
      have eu : x + 3 + 2 * ((T j).c1.n : Int) + 2 * ((T j).c2.n : Int) + ((T j).own.n : Int) + 1 = tSt T k0 (j + 1) := by
        have := es.out
        unfold ThrV.ml at *
        omega
      clear C3
      go_wp2
      exact ⟨⟨j + 1, by omega, by go_num, by first | rfl | rw [eu], by first | rfl | trivial⟩, by simp [intOf]; omega⟩
    · have ej : n = j := by omega
      have i1 : ¬ (j : Int) < (n : Int) := by omega
      subst ej
      go_wp2
      go_ret
      exact ⟨rfl, rfl⟩
end Go.Proofs.YtjceaajnemgheaaGreatDoor
