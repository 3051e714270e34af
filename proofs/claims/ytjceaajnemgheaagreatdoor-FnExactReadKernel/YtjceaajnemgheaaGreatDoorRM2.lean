/- Marks in a kernel that a call made: objects. -/
import Derived.Test.YtjceaajnemgheaaGreatDoorRM1
namespace Go.Proofs.YtjceaajnemgheaaGreatDoor
open Go Go.RowKit Go.Deep Go.Maps

def ObjV.ml (t : ObjV) : Int := 6 + 2 * t.c1.n + t.items.n + t.own.n + 2 * t.c2.n
def oSt (T : Nat → ObjV) (k0 : Int) : Nat → Int
  | 0 => k0
  | j + 1 => oSt T k0 j + (T j).ml
def txtM (k : Int) : ByteArray := ⟨(109 :: digs k.toNat).toArray⟩
theorem markText_m (k : Int) (w : World) (h0 : 1 ≤ k) (h1 : k ≤ 10000000000) : Calls Tryz.prog 39 #[.int .i64 k] w fun e w' => e = .returned (.string (txtM k)) ∧ Below w.heap.size w w' := by
  obtain ⟨n, rfl⟩ : ∃ n : Nat, k = n := ⟨k.toNat, by omega⟩
  exact markText_any n w (by omega) (by omega)
structure ONum (G : Nat → Value) (j : Nat) (t : ObjV) (s : Int) : Prop where
  n0 : G (j * 10) = .int .i64 s
  n1 : G (j * 10 + 1) = .int .i64 (s + 1)
  n2 : G (j * 10 + 2) = .int .i64 (s + 2)
  n3 : G (j * 10 + 3) = .int .i64 (s + 3)
  n5 : G (j * 10 + 5) = .string (txtM (s + 4 + 2 * t.c1.n))
  n8 : G (j * 10 + 8) = .int .i64 (s + 5 + 2 * t.c1.n + t.items.n + t.own.n)
structure OMark (w : World) (t : ObjV) (s : Int) : Prop where
  c1 : CatsAt w t.c1.a t.c1.n (mk1 (s + 4)) (mk2 (s + 4))
  it : StrAt w t.items.a t.items.n (mkS ((s + 5 + 2 * t.c1.n)).toNat)
  ow : IntsAt w t.own.a t.own.n (mkI (s + 5 + 2 * t.c1.n + t.items.n))
  c2 : CatsAt w t.c2.a t.c2.n (mk1 (s + 6 + 2 * t.c1.n + t.items.n + t.own.n)) (mk2 (s + 6 + 2 * t.c1.n + t.items.n + t.own.n))
def ObjV.begs (t : ObjV) : Prop := (0 < t.c1.n → ∃ d, beg t.c1.a t.c1.n d) ∧ (0 < t.items.n → ∃ d, beg t.items.a t.items.n d) ∧ (0 < t.own.n → ∃ d, beg t.own.a t.own.n d) ∧ (0 < t.c2.n → ∃ d, beg t.c2.a t.c2.n d)
theorem OMark.touched {w w' : World} {t : ObjV} {s : Int} {H : Nat → Prop} (h : OMark w t s) (hb : t.begs) (k : Touched H w w') (hn : ∀ b, t.has b → ¬ H b) : OMark w' t s :=
  ⟨h.c1.touched hb.1 k (fun b e => hn b (.inl e)), h.it.touched hb.2.1 k (fun b e => hn b (.inr (.inl e))), h.ow.touched hb.2.2.1 k (fun b e => hn b (.inr (.inr (.inl e)))), h.c2.touched hb.2.2.2 k (fun b e => hn b (.inr (.inr (.inr e))))⟩
theorem ObjV.new.touched {B : Nat} {w w' : World} {t : ObjV} {H : Nat → Prop} (h : t.new B w) (k : Touched H w w') (hn : ∀ b, t.has b → ¬ H b) : t.new B w' :=
  ⟨h.1.touched k (fun b e => hn b (.inl e)), h.2.1.touched k (fun b e => hn b (.inr (.inl e))), h.2.2.1.touched k (fun b e => hn b (.inr (.inr (.inl e)))), h.2.2.2.touched k (fun b e => hn b (.inr (.inr (.inr e))))⟩
theorem ObjV.new.begs {B : Nat} {w : World} {t : ObjV} (h : t.new B w) : t.begs := ⟨h.1.begins, h.2.1.begins, h.2.2.1.begins, h.2.2.2.begins⟩
structure OSep (g n : Nat) (T : Nat → ObjV) : Prop where
  a12 : ∀ j, j < n → Apt (T j).c1.a (T j).c1.n (T j).items.a (T j).items.n
  a13 : ∀ j, j < n → Apt (T j).c1.a (T j).c1.n (T j).own.a (T j).own.n
  a14 : ∀ j, j < n → Apt (T j).c1.a (T j).c1.n (T j).c2.a (T j).c2.n
  a23 : ∀ j, j < n → Apt (T j).items.a (T j).items.n (T j).own.a (T j).own.n
  a24 : ∀ j, j < n → Apt (T j).items.a (T j).items.n (T j).c2.a (T j).c2.n
  a34 : ∀ j, j < n → Apt (T j).own.a (T j).own.n (T j).c2.a (T j).c2.n
  ne : ∀ i j, i < n → j < n → i ≠ j → ∀ b, (T i).has b → ¬ (T j).has b
  g : ∀ j, j < n → ¬ (T j).has g
def OSmall (n : Nat) (T : Nat → ObjV) : Prop := ∀ j, j < n → (T j).c1.n ≤ 20 ∧ (T j).items.n ≤ 20 ∧ (T j).own.n ≤ 20 ∧ (T j).c2.n ≤ 20
theorem oSt_le {T : Nat → ObjV} {k0 : Int} {n : Nat} (h : OSmall n T) : ∀ j, j ≤ n → k0 ≤ oSt T k0 j ∧ oSt T k0 j ≤ k0 + 200 * j
  | 0, _ => ⟨Int.le_refl _, by simp [oSt]⟩
  | j + 1, hj => by
    have := oSt_le (k0 := k0) h j (by omega)
    obtain ⟨h1, h2, h3, h4⟩ := h j (by omega)
    show k0 ≤ oSt T k0 j + (T j).ml ∧ oSt T k0 j + (T j).ml ≤ _
    unfold ObjV.ml
    omega
structure OInv (g m n B : Nat) (T : Nat → ObjV) (k0 : Int) (w wr : World) (j : Nat) : Prop where
  t : Touched (fun b => b = g ∨ ∃ i, i < j ∧ (T i).has b) w wr
  r : ∃ G, wr.rowIs g 45 m G ∧ SlO G n T ∧ ∀ i, i < j → ONum G i (T i) (oSt T k0 i)
  d : ∀ i, i < j → OMark wr (T i) (oSt T k0 i)
theorem ONum.set {G : Nat → Value} {i j : Nat} {T : Nat → ObjV} {s : Int} (h : ONum G i (T i) s) (hij : i ≠ j) (r : Nat) (hr : r < 10) (v : Value) : ONum (fun q => if q = j * 10 + r then v else G q) i (T i) s :=
  ⟨by rw [if_neg (by omega)]; exact h.n0, by rw [if_neg (by omega)]; exact h.n1, by rw [if_neg (by omega)]; exact h.n2, by rw [if_neg (by omega)]; exact h.n3, by rw [if_neg (by omega)]; exact h.n5, by rw [if_neg (by omega)]; exact h.n8⟩
set_option maxRecDepth 100000 in
set_option maxHeartbeats 8000000 in
theorem markObjects_m (g n cap m B : Nat) (T : Nat → ObjV) (k0 : Int) (w : World) (hn : n ≤ 1000) (hm : n * 10 ≤ m) (h0 : 1 ≤ k0) (h1 : k0 ≤ 1000000) (hS : OSep g n T) (hz : OSmall n T) (hT : ∀ j, j < n → (T j).new B w) (hR : ∃ G, w.rowIs g 45 m G ∧ SlO G n T) :
    Calls Tryz.prog 19 #[.slice (some ⟨g, 0, none⟩) n cap, .int .i64 k0] w fun e w' => e = .returned (.int .i64 (oSt T k0 n)) ∧ OInv g m n B T k0 w w' n := by
  have HS := hid hS
  have HT := hid hT
  have HZ := hid hz
  have I0 : Hid (OInv g m n B T k0 w w 0) := hid ⟨Touched.refl _ _, by obtain ⟨G, r, s⟩ := hR; exact ⟨G, r, s, fun i hi => absurd hi (Nat.not_lt_zero _)⟩, fun i hi => absurd hi (Nat.not_lt_zero _)⟩
  clear hS hT hz hR
  go_enter Tryz.func19, Tryz.ntmps19
  go_wp2
  go_loopw [1, 5] (fun kk i wr => ∃ j : Nat, j ≤ n ∧ i = .int .i64 j ∧ kk = .int .i64 (oSt T k0 j) ∧ Hid (OInv g m n B T k0 w wr j)) (fun _ i _ => n - (intOf i).toNat)
  case atStart => exact ⟨0, Nat.zero_le _, rfl, rfl, I0⟩
  case round =>
    clear I0
    obtain ⟨j, hj, rfl, rfl, HI⟩ := hrel
    obtain ⟨x0, x1⟩ := oSt_le (k0 := k0) HZ.out j hj
    by_cases hlt : j < n
    · have i1 : (j : Int) < (n : Int) := by omega
      obtain ⟨G, hR, hSl, hNu⟩ := HI.out.r
      obtain ⟨s1, s2, s3, s4⟩ := hSl j hlt
      obtain ⟨k1, k2, k3, k4⟩ := HZ.out j hlt
      have NJ := hid ((HT.out j hlt).touched HI.out.t (fun b hb hh => by
        rcases hh with e | ⟨i, hi, h⟩
        · subst e; exact HS.out.g j hlt hb
        · exact HS.out.ne i j (by omega) hlt (by omega) b h hb))
      have ng := HS.out.g j hlt
      have a12 := HS.out.a12 j hlt
      have a13 := HS.out.a13 j hlt
      have a14 := HS.out.a14 j hlt
      have a23 := HS.out.a23 j hlt
      have a24 := HS.out.a24 j hlt
      have a34 := HS.out.a34 j hlt
      have es : Hid (oSt T k0 (j + 1) = oSt T k0 j + (T j).ml) := hid rfl
      have KEEP := hid HI.out.d
      have TB0 := hid HI.out.t
      have ng1 : ∀ b, beg (T j).c1.a (T j).c1.n b → ¬ b = g := fun b hb e => by subst e; exact ng (.inl hb)
      have ng2 : ∀ b, beg (T j).items.a (T j).items.n b → ¬ b = g := fun b hb e => by subst e; exact ng (.inr (.inl hb))
      have ng3 : ∀ b, beg (T j).own.a (T j).own.n b → ¬ b = g := fun b hb e => by subst e; exact ng (.inr (.inr (.inl hb)))
      have ng4 : ∀ b, beg (T j).c2.a (T j).c2.n b → ¬ b = g := fun b hb e => by subst e; exact ng (.inr (.inr (.inr hb)))
      obtain ⟨B1, B2, B3, B4⟩ := NJ.out.begs
      generalize oSt T k0 j = x at *
      have z0 := hR.cell (i := j * 10) (by omega)
      have z1 := hR.cell (i := j * 10 + 1) (by omega)
      have z2 := hR.cell (i := j * 10 + 2) (by omega)
      have z3 := hR.cell (i := j * 10 + 3) (by omega)
      have z4 := hR.cell (i := j * 10 + 4) (by omega)
      rw [s1] at z4
      have zf := hR.frozen
      have RG : Hid (∃ G1, ((((wr.setCell ⟨g, j * 10, none⟩ (.int .i64 x)).setCell ⟨g, j * 10 + 1, none⟩ (.int .i64 (x + 1))).setCell ⟨g, j * 10 + 2, none⟩ (.int .i64 (x + 1 + 1))).setCell ⟨g, j * 10 + 3, none⟩ (.int .i64 (x + 1 + 1 + 1))).rowIs g 45 m G1 ∧ SlO G1 n T ∧ (∀ i, i < j → ONum G1 i (T i) (oSt T k0 i)) ∧ G1 (j * 10) = .int .i64 x ∧ G1 (j * 10 + 1) = .int .i64 (x + 1) ∧ G1 (j * 10 + 2) = .int .i64 (x + 1 + 1) ∧ G1 (j * 10 + 3) = .int .i64 (x + 1 + 1 + 1)) := hid ⟨_, (((hR.set (j * 10) (.int .i64 x)).set (j * 10 + 1) (.int .i64 (x + 1))).set (j * 10 + 2) (.int .i64 (x + 1 + 1))).set (j * 10 + 3) (.int .i64 (x + 1 + 1 + 1)), (((hSl.set j 0 (by omega) (.int .i64 x)).set j 1 (by omega) (.int .i64 (x + 1))).set j 2 (by omega) (.int .i64 (x + 1 + 1))).set j 3 (by omega) (.int .i64 (x + 1 + 1 + 1)), fun i hi => ((((hNu i hi).set (by omega) 0 (by omega) _).set (by omega) 1 (by omega) _).set (by omega) 2 (by omega) _).set (by omega) 3 (by omega) _, by rw [if_neg (by omega), if_neg (by omega), if_neg (by omega), if_pos rfl], by rw [if_neg (by omega), if_neg (by omega), if_pos rfl], by rw [if_neg (by omega), if_pos rfl], by rw [if_pos rfl]⟩
      have U1 := hid (((((Touched.refl (fun b => b = g) wr).put rfl (j * 10) (.int .i64 x)).put rfl (j * 10 + 1) (.int .i64 (x + 1))).put rfl (j * 10 + 2) (.int .i64 (x + 1 + 1))).put rfl (j * 10 + 3) (.int .i64 (x + 1 + 1 + 1)))
      have N1 := hid (NJ.out.touched U1.out (fun b hb e => by subst e; exact ng hb))
      have C1 := hid (markCat_t (T j).c1 B (x + 1 + 1 + 1 + 1) _ (by omega) (by omega) (by omega) N1.out.1)
      clear HI hSl hNu s1 s2 s3 s4
      go_wp2_with fail
      clear z0 z1 z2 z3 z4 zf
      generalize (((wr.setCell ⟨g, j * 10, none⟩ (.int .i64 x)).setCell ⟨g, j * 10 + 1, none⟩ (.int .i64 (x + 1))).setCell ⟨g, j * 10 + 2, none⟩ (.int .i64 (x + 1 + 1))).setCell ⟨g, j * 10 + 3, none⟩ (.int .i64 (x + 1 + 1 + 1)) = W1 at *
      refine C1.out.mono ?_
      rintro e w2 ⟨rfl, t2, cm1⟩
      have CM1 := hid cm1
      have U2 := hid ((U1.out.mono (H' := fun b => b = g ∨ (T j).has b) (fun b e => .inl e)).trans (t2.mono (fun b e => .inr (.inl e))))
      obtain ⟨G2, R2', S2, M2, p0, p1, p2, p3⟩ := RG.out
      have R2 := hid (t2.row R2' (fun e => ng (.inl e)))
      have N2 := hid (N1.out.2.1.touched t2 (fun b e1 e2 => a12 b e2 e1))
      have N3 := hid (N1.out.2.2.1.touched t2 (fun b e1 e2 => a13 b e2 e1))
      have N4 := hid (N1.out.2.2.2.touched t2 (fun b e1 e2 => a14 b e2 e1))
      clear R2' RG U1 N1 C1 t2 cm1
      generalize hy : x + 1 + 1 + 1 + 1 + 2 * ((T j).c1.n : Int) = y at *
      have y0 : x ≤ y ∧ y ≤ x + 44 := by omega
      have HY := hid hy
      clear hy
      go_wp2_with fail
      refine (markText_m y w2 (by omega) (by omega)).mono ?_
      rintro e w3 ⟨rfl, hb3⟩
      have t3 : Touched (fun _ => False) w2 w3 := Touched.of_below hb3
      have R3 := t3.row R2.out (fun e => e)
      have CM1a := hid (CM1.out.touched B1 t3 (fun _ _ e => e))
      have U3 := hid (U2.out.trans (Touched.of_below hb3))
      have N2a := hid (N2.out.touched t3 (fun _ _ e => e))
      have N3a := hid (N3.out.touched t3 (fun _ _ e => e))
      have N4a := hid (N4.out.touched t3 (fun _ _ e => e))
      clear R2 CM1 U2 N2 N3 N4 t3 hb3
      obtain ⟨s1, s2, s3, s4⟩ := S2 j hlt
      have z5 := R3.cell (i := j * 10 + 5) (by omega)
      have z6 := R3.cell (i := j * 10 + 6) (by omega)
      rw [s2] at z6
      have zf := R3.frozen
      have RG : Hid (∃ G1, (w3.setCell ⟨g, j * 10 + 5, none⟩ (.string (txtM y))).rowIs g 45 m G1 ∧ SlO G1 n T ∧ (∀ i, i < j → ONum G1 i (T i) (oSt T k0 i)) ∧ G1 (j * 10) = .int .i64 x ∧ G1 (j * 10 + 1) = .int .i64 (x + 1) ∧ G1 (j * 10 + 2) = .int .i64 (x + 1 + 1) ∧ G1 (j * 10 + 3) = .int .i64 (x + 1 + 1 + 1) ∧ G1 (j * 10 + 5) = .string (txtM y)) := hid ⟨_, R3.set (j * 10 + 5) (.string (txtM y)), S2.set j 5 (by omega) (.string (txtM y)), fun i hi => (M2 i hi).set (by omega) 5 (by omega) _, by rw [if_neg (by omega)]; exact p0, by rw [if_neg (by omega)]; exact p1, by rw [if_neg (by omega)]; exact p2, by rw [if_neg (by omega)]; exact p3, by rw [if_pos rfl]⟩
      have V4 := hid ((Touched.refl (fun b => b = g) w3).put rfl (j * 10 + 5) (.string (txtM y)))
      have C4 := hid (markStr_t (T j).items B (y + 1) _ (by omega) (by omega) (by omega) (N2a.out.touched V4.out ng2))
      clear R3 S2 M2 p0 p1 p2 p3 s1 s2 s3 s4
      go_wp2_with fail
      clear z5 z6 zf
      generalize w3.setCell ⟨g, j * 10 + 5, none⟩ (.string (txtM y)) = W4 at *
      refine C4.out.mono ?_
      rintro e w5 ⟨rfl, t5, cm2⟩
      have CM2 := hid cm2
      have CM1b := hid ((CM1a.out.touched B1 V4.out ng1).touched B1 t5 (fun b e1 e2 => a12 b e1 e2))
      have U5 := hid ((U3.out.trans (V4.out.mono (fun b e => .inl e))).trans (t5.mono (fun b e => .inr (.inr (.inl e)))))
      obtain ⟨G5, R5', S5, M5, p0, p1, p2, p3, p5⟩ := RG.out
      have R5 := t5.row R5' (fun e => ng (.inr (.inl e)))
      have N3b := hid ((N3a.out.touched V4.out ng3).touched t5 (fun b e1 e2 => a23 b e2 e1))
      have N4b := hid ((N4a.out.touched V4.out ng4).touched t5 (fun b e1 e2 => a24 b e2 e1))
      clear RG R5' C4 V4 U3 N2a N3a N4a CM1a t5 cm2
      generalize hv : y + 1 + ((T j).items.n : Int) = v at *
      have v0 : x ≤ v ∧ v ≤ x + 80 := by omega
      have HV := hid hv
      clear hv
      obtain ⟨s1, s2, s3, s4⟩ := S5 j hlt
      have z7 := R5.cell (i := j * 10 + 7) (by omega)
      rw [s3] at z7
      have C6 := hid (markInt_t (T j).own B v _ (by omega) (by omega) (by omega) N3b.out)
      clear s1 s2 s3 s4
      go_wp2_with fail
      refine C6.out.mono ?_
      rintro e w6 ⟨rfl, t6, cm3⟩
      have CM3 := hid cm3
      have CM1c := hid (CM1b.out.touched B1 t6 (fun b e1 e2 => a13 b e1 e2))
      have CM2c := hid (CM2.out.touched B2 t6 (fun b e1 e2 => a23 b e1 e2))
      have U6 := hid (U5.out.trans (t6.mono (fun b e => .inr (.inr (.inr (.inl e))))))
      have R6 := t6.row R5 (fun e => ng (.inr (.inr (.inl e))))
      have N4c := hid (N4b.out.touched t6 (fun b e1 e2 => a34 b e2 e1))
      clear z7 R5 C6 U5 CM1b CM2 N3b N4b t6 cm3
      generalize hu : v + ((T j).own.n : Int) = u at *
      have u0 : x ≤ u ∧ u ≤ x + 120 := by omega
      have HU := hid hu
      clear hu
      obtain ⟨s1, s2, s3, s4⟩ := S5 j hlt
      have z8 := R6.cell (i := j * 10 + 8) (by omega)
      have z9 := R6.cell (i := j * 10 + 9) (by omega)
      rw [s4] at z9
      have zf := R6.frozen
      have RG : Hid (∃ G1, (w6.setCell ⟨g, j * 10 + 8, none⟩ (.int .i64 u)).rowIs g 45 m G1 ∧ SlO G1 n T ∧ (∀ i, i < j → ONum G1 i (T i) (oSt T k0 i)) ∧ G1 (j * 10) = .int .i64 x ∧ G1 (j * 10 + 1) = .int .i64 (x + 1) ∧ G1 (j * 10 + 2) = .int .i64 (x + 1 + 1) ∧ G1 (j * 10 + 3) = .int .i64 (x + 1 + 1 + 1) ∧ G1 (j * 10 + 5) = .string (txtM y) ∧ G1 (j * 10 + 8) = .int .i64 u) := hid ⟨_, R6.set (j * 10 + 8) (.int .i64 u), S5.set j 8 (by omega) (.int .i64 u), fun i hi => (M5 i hi).set (by omega) 8 (by omega) _, by rw [if_neg (by omega)]; exact p0, by rw [if_neg (by omega)]; exact p1, by rw [if_neg (by omega)]; exact p2, by rw [if_neg (by omega)]; exact p3, by rw [if_neg (by omega)]; exact p5, by rw [if_pos rfl]⟩
      have V7 := hid ((Touched.refl (fun b => b = g) w6).put rfl (j * 10 + 8) (.int .i64 u))
      have C7 := hid (markCat_t (T j).c2 B (u + 1) _ (by omega) (by omega) (by omega) (N4c.out.touched V7.out ng4))
      clear R6 S5 M5 p0 p1 p2 p3 p5 s1 s2 s3 s4
      go_wp2_with fail
      clear z8 z9 zf
      generalize w6.setCell ⟨g, j * 10 + 8, none⟩ (.int .i64 u) = W7 at *
      refine C7.out.mono ?_
      rintro e w8 ⟨rfl, t8, cm4⟩
      have U8 := hid ((U6.out.trans (V7.out.mono (fun b e => .inl e))).trans (t8.mono (fun b e => .inr (.inr (.inr (.inr e))))))
      have F1 := hid ((CM1c.out.touched B1 V7.out ng1).touched B1 t8 (fun b e1 e2 => a14 b e1 e2))
      have F2 := hid ((CM2c.out.touched B2 V7.out ng2).touched B2 t8 (fun b e1 e2 => a24 b e1 e2))
      have F3 := hid ((CM3.out.touched B3 V7.out ng3).touched B3 t8 (fun b e1 e2 => a34 b e1 e2))
      have F4 := hid cm4
      have FIN : Hid (OInv g m n B T k0 w w8 (j + 1)) := hid (by
        have hyy := HY.out
        have hvv := HV.out
        have huu := HU.out
        obtain ⟨G8, R8', S8, M8, p0, p1, p2, p3, p5, p8⟩ := RG.out
        have R8 := t8.row R8' (fun e => ng (.inr (.inr (.inr e))))
        have exj : oSt T k0 j = x := by
          have := es.out
          have e2 : oSt T k0 (j + 1) = oSt T k0 j + (T j).ml := rfl
          omega
        refine ⟨(TB0.out.mono (fun b e => ?_)).trans (U8.out.mono (fun b e => ?_)), ⟨G8, R8, S8, fun i hi => ?_⟩, fun i hi => ?_⟩
        · rcases e with e | ⟨i, hi, h⟩
          · exact .inl e
          · exact .inr ⟨i, by omega, h⟩
        · rcases e with e | h
          · exact .inl e
          · exact .inr ⟨j, by omega, h⟩
        · by_cases e : i = j
          · subst e
            rw [exj]
            refine ⟨p0, p1, by rw [p2]; congr 1; omega, by rw [p3]; congr 1; omega, by rw [p5]; congr 2; omega, by rw [p8]; congr 1; omega⟩
          · exact M8 i (by omega)
        · by_cases e : i = j
          · subst e
            rw [exj]
            have e1 : x + 1 + 1 + 1 + 1 = x + 4 := by omega
            have e2 : y + 1 = x + 5 + 2 * ((T i).c1.n : Int) := by omega
            have e3 : v = x + 5 + 2 * ((T i).c1.n : Int) + ((T i).items.n : Int) := by omega
            have e4 : u + 1 = x + 6 + 2 * ((T i).c1.n : Int) + ((T i).items.n : Int) + ((T i).own.n : Int) := by omega
            have d1 := F1.out
            have d2 := F2.out
            have d3 := F3.out
            have d4 := F4.out
            rw [e1] at d1
            rw [e2] at d2
            rw [e3] at d3
            rw [e4] at d4
            exact ⟨d1, d2, d3, d4⟩
          · refine (KEEP.out i (by omega)).touched (HT.out i (by omega)).begs U8.out (fun b hb h => ?_)
            rcases h with rfl | h
            · exact HS.out.g i (by omega) hb
            · exact HS.out.ne i j (by omega) hlt e b hb h)
      have eu : u + 1 + 2 * ((T j).c2.n : Int) = oSt T k0 (j + 1) := by
        have := es.out
        have := HY.out
        have := HV.out
        have := HU.out
        unfold ObjV.ml at *
        omega
      clear KEEP TB0 es RG t8 cm4 U6 V7 CM1c CM2c CM3 N4c C7 U8 F1 F2 F3 F4
      go_wp2
      exact ⟨⟨j + 1, by omega, by go_num, by first | rfl | rw [eu], FIN⟩, by simp [intOf]; omega⟩
    · have ej : n = j := by omega
      have i1 : ¬ (j : Int) < (n : Int) := by omega
      subst ej
      go_wp2
      go_ret
      exact ⟨rfl, HI.out⟩
end Go.Proofs.YtjceaajnemgheaaGreatDoor
