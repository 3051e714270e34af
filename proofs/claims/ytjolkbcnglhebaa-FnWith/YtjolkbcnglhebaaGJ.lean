/- The drawn label, category and level of FnWith. -/
import Derived.Test.YtjolkbcnglhebaaGE
namespace Go.Proofs.Ytjolkbcnglhebaa
open Go.RowKit Go.Deep Go.Maps

section
variable {F : Fence} {n : Nat} {P : Program} {ops : Array Oper} {Q : Exit → Act → World → Prop} {md : Region.Mode} {S S' : World → Prop} {X : List Nat}
theorem AnyF.weaken (hS : ∀ w, S' w → S w) {f : Nat} : ∀ {L : Array Bool} {a : Act} {w : World}, AnyF F n P md ops Q S' X f L a w → AnyF F n P md ops Q S X f L a w := by
  induction f with
  | zero => intro L a w h; exact h
  | succ f ih => intro L a w h; exact ⟨h.1, fun i hi => wpOpIn_mono (fun _ _ k => ⟨fun hx => hS _ (k.1 hx), ih k.2⟩) (h.2 i hi)⟩
theorem AnyF.two {i j : Nat} {oi oj : Oper} {f : Nat} {L : Array Bool} {a : Act} {w : World} (hi : ops[i]? = some oi) (hj : ops[j]? = some oj) (hr : Region.ready md ops L = [i, j])
    (h1 : ∀ K' : Act → World → Prop, Hid (∀ a w, (X.contains i = false → S w) → AnyF F n P md ops Q S X f (L.setIfInBounds i true) a w → K' a w) → if Region.wanted oi (yielded ops a.tmps) = true then Oper.wpIn F n P oi a w K' Q else (∀ f, oi.about P w a.eval = some f → F.fn f) ∧ K' (a.put oi.dst undef) w)
    (h2 : ∀ K' : Act → World → Prop, Hid (∀ a w, (X.contains j = false → S w) → AnyF F n P md ops Q S X f (L.setIfInBounds j true) a w → K' a w) → if Region.wanted oj (yielded ops a.tmps) = true then Oper.wpIn F n P oj a w K' Q else (∀ f, oj.about P w a.eval = some f → F.fn f) ∧ K' (a.put oj.dst undef) w) : AnyF F n P md ops Q S X (f + 1) L a w :=
  ⟨fun e => absurd (hr.symm.trans e) (by simp), fun k hk => by
    rw [hr] at hk
    have : k = i ∨ k = j := by simpa using hk
    rcases this with rfl | rfl
    · exact wpOpIn_step hi (fun K' hK => h1 K' (fun a w p q => hK a w ⟨p, q⟩))
    · exact wpOpIn_step hj (fun K' hK => h2 K' (fun a w p q => hK a w ⟨p, q⟩))⟩
end

theorem Rd.setw {w0 W : World} {rb P : Nat} {a : Option Addr} {n cap : Nat} (h : Rd w0 W rb a n cap) (hP : w0.heap.size ≤ P ∧ P ≠ rb) (i : Nat) (v : Value) : Rd w0 (W.setCell ⟨P, i, none⟩ v) rb a n cap := by
  obtain ⟨E, le, by', hn, p, hp, hB⟩ := h
  exact ⟨E.setCell hP.1 _, le, by', hn, p, hp, (blk_setCell_other _ _ _ _ (by dsimp only; omega)).trans hB⟩

def lit5 (x : Nat) : Int := if x = 0 then 1001 else if x = 1 then 2001 else if x = 2 then 3001 else if x = 3 then 5 else 7
theorem lit5_cell {W : World} {q : Nat} (h : Blk W q (.cells #[.int .i64 1001, .int .i64 2001, .int .i64 3001, .int .i64 5, .int .i64 7] 2)) {x : Nat} (hx : x < 5) : W.cell? ⟨q, x, none⟩ = some (.int .i64 (lit5 x)) := by
  unfold Blk at h
  have : x = 0 ∨ x = 1 ∨ x = 2 ∨ x = 3 ∨ x = 4 := by omega
  rcases this with rfl | rfl | rfl | rfl | rfl <;> simp [World.cell?, h, lit5]
theorem lit5_ok (x : Nat) : 1 ≤ lit5 x ∧ lit5 x ≤ 9999 := by unfold lit5; split <;> (try split) <;> (try split) <;> (try split) <;> omega

set_option maxRecDepth 100000 in
set_option maxHeartbeats 8000000 in
theorem drawWith_any (a : Option Addr) (n cap : Nat) (w : World) (hn : n ≤ 1048576) (hb : BytesAt w a n) :
    Calls Try.prog 11 #[.slice a n cap] w fun e w' => ∃ (b1 : Int) (l1 : List (Int × Int)) (a1 : Option Addr) (c1 : Nat) (cat lv : Int), e = .returned (.tuple #[.agg #[.int .i64 b1, .slice a1 l1.length c1], .int .i64 cat, .int .i64 lv]) ∧ l1.length ≤ 3 ∧ (1 ≤ cat ∧ cat ≤ 9999) ∧ CatsAt w' a1 l1.length (fstAt l1) (sndAt l1) ∧ Below w.heap.size w w' := by
  have K0 := (Below.refl _ w).alloc (Nat.le_refl _) (.cells #[.int .i64 0, .slice none 0 0] 26)
  have X0 := Blk.new w (.cells #[.int .i64 0, .slice none 0 0] 26)
  have HB : Hid (BytesAt w a n) := hb
  clear hb
  go_enter Try.func11, Try.ntmps11
  go_wp2_with fail
  refine (l1Open_any a n cap _ hn (HB.out.below K0)).mono ?_
  rintro e u1 ⟨rb, rfl, R1'⟩
  have R1 : Rd w u1 rb a n cap := ⟨K0.trans (R1'.E.mono (by simp)), by have := R1'.le; simp at this; omega, HB.out, hn, R1'.at'⟩
  have X1 := X0.below R1'.E
  have rl' : w.heap.size + 1 ≤ rb := by have := R1'.le; simpa using this
  have rl : w.heap.size ≤ w.heap.size ∧ w.heap.size ≠ rb := ⟨Nat.le_refl _, by omega⟩
  clear X0 K0 R1'
  go_wp2_with fail
  refine (rdLabel_any _ rb a n cap _ R1).mono ?_
  rintro e u2 ⟨b1, l1, a1, c1, rfl, l13, o1, R2, g2⟩
  have ru := R1.lt
  have E2 : Below w.heap.size w u2 := R2.E
  have X2 := (X1.grown g2 (by simp; omega)).alloc (.cells #[.int .i64 b1, .slice a1 l1.length c1] 26)
  have Z2 := Blk.new u2 (.cells #[.int .i64 b1, .slice a1 l1.length c1] 26)
  have K2 := (Below.refl _ u2).alloc (Nat.le_refl _) (.cells #[.int .i64 b1, .slice a1 l1.length c1] 26)
  have P2 := (OwnList.below o1 K2).low (B' := rb + 1) (by omega)
  have R2' := R2.below K2
  have zr : rb < u2.heap.size := R2.lt
  clear R1 g2 X1 o1 K2 R2 E2
  go_wp2_with fail
  obtain ⟨z0, z1⟩ := Z2.two
  generalize u2.alloc (.cells #[.int .i64 b1, .slice a1 l1.length c1] 26) = u3 at *
  generalize u2.heap.size = Z at *
  refine (wpIn_wide (n := 3)).1 ?_
  refine AnyF.region (fun w' => w'.cell? ⟨Z, 0, none⟩ = some (.int .i64 b1) ∧ w'.cell? ⟨Z, 1, none⟩ = some (.slice a1 l1.length c1)) [] hmixed ?_
  have Z0 : Blk u3.drew Z (.cells #[.int .i64 b1, .slice a1 l1.length c1] 26) := Z2
  have X0 : Blk u3.drew w.heap.size (.cells #[.int .i64 0, .slice none 0 0] 26) := X2
  have R0 := R2'.drew
  have E0 := R0.E
  have P0 := OwnList.below P2 (Below.refl _ u3).drew
  have S0 : u3.drew.cell? ⟨Z, 0, none⟩ = some (.int .i64 b1) ∧ u3.drew.cell? ⟨Z, 1, none⟩ = some (.slice a1 l1.length c1) := Z0.two
  clear Z2 X2 R2' P2 z0 z1
  generalize u3.drew = v0 at *
  refine AnyF.takeD (i := 0) (d := 11) (.agg #[.int .i64 b1, .slice a1 l1.length c1]) rfl rfl rfl (by kernel_rfl) (by kernel_rfl) (by kernel_rfl) (by kernel_rfl) (by kernel_rfl) (fun _ _ _ h => h) S0 (Or.inl ⟨by rfl, fun w' h => (by dsimp only at h; go_simp)⟩) (fun _ => by rfl) ?_
  simp only [Act.put, List.setIfInBounds_toArray, List.set_cons_zero, List.set_cons_succ]
  refine AnyF.takeD (i := 2) (d := 13) (.pointer (some ⟨rb, 0, none⟩)) rfl rfl rfl (by kernel_rfl) (by kernel_rfl) (by kernel_rfl) (by kernel_rfl) (by kernel_rfl) (fun _ _ _ h => h) S0 (Or.inl ⟨by rfl, fun w' h => (by dsimp only at h; go_simp)⟩) (fun _ => by rfl) ?_
  simp only [Act.put, List.setIfInBounds_toArray, List.set_cons_zero, List.set_cons_succ]
  refine AnyF.takeD (i := 6) (d := 17) (.pointer (some ⟨rb, 0, none⟩)) rfl rfl rfl (by kernel_rfl) (by kernel_rfl) (by kernel_rfl) (by kernel_rfl) (by kernel_rfl) (fun _ _ _ h => h) S0 (Or.inl ⟨by rfl, fun w' h => (by dsimp only at h; go_simp)⟩) (fun _ => by rfl) ?_
  simp only [Act.put, List.setIfInBounds_toArray, List.set_cons_zero, List.set_cons_succ]
  refine AnyF.two (i := 1) (j := 3) rfl rfl (by kernel_rfl) (fun K1 hK1 => ?_) (fun K1 hK1 => ?_)
  · go_simp
    have K1 := (Below.refl _ v0).alloc (Nat.le_refl _) (.cells #[.int .i64 1001, .int .i64 2001, .int .i64 3001, .int .i64 5, .int .i64 7] 2)
    have Y1 := Blk.new v0 (.cells #[.int .i64 1001, .int .i64 2001, .int .i64 3001, .int .i64 5, .int .i64 7] 2)
    have rq : rb < v0.heap.size := R0.lt
    have zq : Z < v0.heap.size := Z0.lt
    have xq : w.heap.size < v0.heap.size := X0.lt
    have Z1 := Z0.below K1
    have X1 := X0.below K1
    have R1 := R0.below K1
    have E1 := E0.trans (K1.mono E0.size)
    have P1 := OwnList.below P0 K1
    clear Z0 X0 E0 P0 R0 K1
    generalize v0.alloc (.cells #[.int .i64 1001, .int .i64 2001, .int .i64 3001, .int .i64 5, .int .i64 7] 2) = v1 at *
    generalize v0.heap.size = q at *
    have S1 := (show (v1.cell? ⟨Z, 0, none⟩ = some (.int .i64 b1) ∧ v1.cell? ⟨Z, 1, none⟩ = some (.slice a1 l1.length c1)) ∧ Blk v1 q (.cells #[.int .i64 1001, .int .i64 2001, .int .i64 3001, .int .i64 5, .int .i64 7] 2) from ⟨Z1.two, Y1⟩)
    refine hK1.out _ _ (fun _ => S1.1) ?_
    clear hK1 K1 S0
    refine AnyF.weaken (S' := fun w' => (w'.cell? ⟨Z, 0, none⟩ = some (.int .i64 b1) ∧ w'.cell? ⟨Z, 1, none⟩ = some (.slice a1 l1.length c1)) ∧ Blk w' q (.cells #[.int .i64 1001, .int .i64 2001, .int .i64 3001, .int .i64 5, .int .i64 7] 2)) (fun _ h => h.1) ?_
    refine AnyF.one (i := 3) rfl (by kernel_rfl) (fun K1 hK1 => ?_)
    go_simp
    refine ⟨trivial, ?_⟩
    refine (callsIn_wide.2 (below_any _ rb a n cap 5 _ (by omega) R1)).mono ?_
    rintro e v2 ⟨x, rfl, _, x5, R2, g2⟩
    have x5' := x5 (by omega)
    have xi : (x : Int) < 5 := by omega
    clear x5
    have lt2 := R1.lt
    have Z2 := Z1.grown g2 (by simp; omega)
    have X2 := X1.grown g2 (by simp; omega)
    have Y2 := Y1.grown g2 (by simp; omega)
    have E2 := E1.grown g2 E1.size (fun j e => by cases e; omega)
    have P2 := P1.keptR g2 (by omega)
    have S2 := (show (v2.cell? ⟨Z, 0, none⟩ = some (.int .i64 b1) ∧ v2.cell? ⟨Z, 1, none⟩ = some (.slice a1 l1.length c1)) ∧ Blk v2 q (.cells #[.int .i64 1001, .int .i64 2001, .int .i64 3001, .int .i64 5, .int .i64 7] 2) from ⟨Z2.two, Y2⟩)
    refine hK1.out _ _ (fun _ => S2) ?_
    clear hK1 K1 Z1 X1 E1 P1 R1 Y1 g2 S1 
    refine AnyF.takeD (i := 4) (d := 15) (.pointer (some ⟨q, x, none⟩)) rfl rfl rfl (by kernel_rfl) (by kernel_rfl) (by kernel_rfl) (by kernel_rfl) (by kernel_rfl) (fun _ _ _ h => h) S2 (Or.inl ⟨by rfl, fun w' h => (by dsimp only at h; go_simp)⟩) (fun _ => by rfl) ?_
    simp only [Act.put, List.setIfInBounds_toArray, List.set_cons_zero, List.set_cons_succ]
    refine AnyF.takeD (i := 5) (d := 16) (.int .i64 (lit5 x)) rfl rfl rfl (by kernel_rfl) (by kernel_rfl) (by kernel_rfl) (by kernel_rfl) (by kernel_rfl) (fun _ _ _ h => h) S2 (Or.inl ⟨by rfl, fun w' h => (by have hc := lit5_cell h.2 x5'; clear h; go_simp)⟩) (fun _ => by rfl) ?_
    simp only [Act.put, List.setIfInBounds_toArray, List.set_cons_zero, List.set_cons_succ]
    refine AnyF.one (i := 7) rfl (by kernel_rfl) (fun K1 hK1 => ?_)
    go_simp
    refine ⟨trivial, ?_⟩
    refine (callsIn_wide.2 (off_any _ rb a n cap 0 3 _ (by omega) (by omega) R2)).mono ?_
    rintro e v3 ⟨lv, rfl, R3, g3⟩
    have lt3 := R2.lt
    have Z3 := Z2.grown g3 (by simp; omega)
    have X3 := X2.grown g3 (by simp; omega)
    have Y3 := Y2.grown g3 (by simp; omega)
    have E3 := E2.grown g3 E2.size (fun j e => by cases e; omega)
    have P3 := P2.keptR g3 (by omega)
    have S3 := (show (v3.cell? ⟨Z, 0, none⟩ = some (.int .i64 b1) ∧ v3.cell? ⟨Z, 1, none⟩ = some (.slice a1 l1.length c1)) ∧ Blk v3 q (.cells #[.int .i64 1001, .int .i64 2001, .int .i64 3001, .int .i64 5, .int .i64 7] 2) from ⟨Z3.two, Y3⟩)
    refine hK1.out _ _ (fun _ => S3) ?_
    clear hK1 K1 Z2 X2 E2 P2 R2 Y2 g3 S2 
    obtain ⟨x0, x1⟩ := X3.two
    have xf0 := X3.frozen2 0
    have xf1 := X3.frozen2 1
    refine AnyF.one (i := 8) rfl (by kernel_rfl) (fun K1 hK1 => ?_)
    go_simp
    have Z4 := Z3.far2 (P := w.heap.size) (by omega) (.int .i64 b1) (.slice a1 l1.length c1)
    have Y4 := Y3.far2 (P := w.heap.size) (by omega) (.int .i64 b1) (.slice a1 l1.length c1)
    have X4 := (X3.set0 (.int .i64 b1)).set1 (.slice a1 l1.length c1)
    have E4 := (E3.setCell (p := ⟨w.heap.size, 0, none⟩) (Nat.le_refl _) (.int .i64 b1)).setCell (p := ⟨w.heap.size, 1, none⟩) (Nat.le_refl _) (.slice a1 l1.length c1)
    have P4 := (P3.set (P := w.heap.size) (by omega) 0 (.int .i64 b1)).set (P := w.heap.size) (by omega) 1 (.slice a1 l1.length c1)
    have R4 : Rd _ _ rb a n cap := (R3.setw rl 0 (.int .i64 b1)).setw rl 1 (.slice a1 l1.length c1)
    clear Z3 X3 E3 P3 R3 Y3 x0 x1 xf0 xf1
    generalize (v3.setCell ⟨w.heap.size, 0, none⟩ (.int .i64 b1)).setCell ⟨w.heap.size, 1, none⟩ (.slice a1 l1.length c1) = v4 at *
    have S4 := (show (v4.cell? ⟨Z, 0, none⟩ = some (.int .i64 b1) ∧ v4.cell? ⟨Z, 1, none⟩ = some (.slice a1 l1.length c1)) ∧ Blk v4 q (.cells #[.int .i64 1001, .int .i64 2001, .int .i64 3001, .int .i64 5, .int .i64 7] 2) from ⟨Z4.two, Y4⟩)
    refine hK1.out _ _ (fun _ => S4) ?_
    clear hK1 K1  S3 
    refine AnyF.takeD (i := 9) (d := 3) (.int .i64 (lit5 x)) rfl rfl rfl (by kernel_rfl) (by kernel_rfl) (by kernel_rfl) (by kernel_rfl) (by kernel_rfl) (fun _ _ _ h => h) S4 (Or.inl ⟨by rfl, fun w' h => (by dsimp only at h; go_simp)⟩) (fun _ => by rfl) ?_
    simp only [Act.put, List.setIfInBounds_toArray, List.set_cons_zero, List.set_cons_succ]
    refine AnyF.takeD (i := 10) (d := 4) (.int .i64 lv) rfl rfl rfl (by kernel_rfl) (by kernel_rfl) (by kernel_rfl) (by kernel_rfl) (by kernel_rfl) (fun _ _ _ h => h) S4 (Or.inl ⟨by rfl, fun w' h => (by dsimp only at h; go_simp)⟩) (fun _ => by rfl) ?_
    simp only [Act.put, List.setIfInBounds_toArray, List.set_cons_zero, List.set_cons_succ]
    refine AnyF.done (by kernel_rfl) ?_
    obtain ⟨x0, x1⟩ := X4.two
    go_wp2
    refine bodyPost_ret (v := .tuple #[.agg #[.int .i64 b1, .slice a1 l1.length c1], .int .i64 (lit5 x), .int .i64 lv]) (by simp [results, Try.results11, go_sem, x0, x1]) rfl ⟨b1, l1, a1, c1, lit5 x, lv, rfl, l13, lit5_ok x, OwnCats.cats P4, E4⟩
  · go_simp
    refine ⟨trivial, ?_⟩
    refine (callsIn_wide.2 (below_any _ rb a n cap 5 _ (by omega) R0)).mono ?_
    rintro e v1 ⟨x, rfl, _, x5, R1, g1⟩
    have x5' := x5 (by omega)
    have xi : (x : Int) < 5 := by omega
    clear x5
    have lt1 := R0.lt
    have Z1 := Z0.grown g1 (by simp; omega)
    have X1 := X0.grown g1 (by simp; omega)
    have E1 := E0.grown g1 E0.size (fun j e => by cases e; omega)
    have P1 := P0.keptR g1 (by omega)
    have S1 := (show v1.cell? ⟨Z, 0, none⟩ = some (.int .i64 b1) ∧ v1.cell? ⟨Z, 1, none⟩ = some (.slice a1 l1.length c1) from Z1.two)
    refine hK1.out _ _ (fun _ => S1) ?_
    clear hK1 K1 Z0 X0 E0 P0 R0 g1 S0 
    refine AnyF.two (i := 1) (j := 7) rfl rfl (by kernel_rfl) (fun K1 hK1 => ?_) (fun K1 hK1 => ?_)
    · go_simp
      have K2 := (Below.refl _ v1).alloc (Nat.le_refl _) (.cells #[.int .i64 1001, .int .i64 2001, .int .i64 3001, .int .i64 5, .int .i64 7] 2)
      have Y2 := Blk.new v1 (.cells #[.int .i64 1001, .int .i64 2001, .int .i64 3001, .int .i64 5, .int .i64 7] 2)
      have rq : rb < v1.heap.size := R1.lt
      have zq : Z < v1.heap.size := Z1.lt
      have xq : w.heap.size < v1.heap.size := X1.lt
      have Z2 := Z1.below K2
      have X2 := X1.below K2
      have R2 := R1.below K2
      have E2 := E1.trans (K2.mono E1.size)
      have P2 := OwnList.below P1 K2
      clear Z1 X1 E1 P1 R1 K2
      generalize v1.alloc (.cells #[.int .i64 1001, .int .i64 2001, .int .i64 3001, .int .i64 5, .int .i64 7] 2) = v2 at *
      generalize v1.heap.size = q at *
      have S2 := (show (v2.cell? ⟨Z, 0, none⟩ = some (.int .i64 b1) ∧ v2.cell? ⟨Z, 1, none⟩ = some (.slice a1 l1.length c1)) ∧ Blk v2 q (.cells #[.int .i64 1001, .int .i64 2001, .int .i64 3001, .int .i64 5, .int .i64 7] 2) from ⟨Z2.two, Y2⟩)
      refine hK1.out _ _ (fun _ => S2.1) ?_
      clear hK1 K1 S1
      refine AnyF.weaken (S' := fun w' => (w'.cell? ⟨Z, 0, none⟩ = some (.int .i64 b1) ∧ w'.cell? ⟨Z, 1, none⟩ = some (.slice a1 l1.length c1)) ∧ Blk w' q (.cells #[.int .i64 1001, .int .i64 2001, .int .i64 3001, .int .i64 5, .int .i64 7] 2)) (fun _ h => h.1) ?_
      refine AnyF.takeD (i := 4) (d := 15) (.pointer (some ⟨q, x, none⟩)) rfl rfl rfl (by kernel_rfl) (by kernel_rfl) (by kernel_rfl) (by kernel_rfl) (by kernel_rfl) (fun _ _ _ h => h) S2 (Or.inl ⟨by rfl, fun w' h => (by dsimp only at h; go_simp)⟩) (fun _ => by rfl) ?_
      simp only [Act.put, List.setIfInBounds_toArray, List.set_cons_zero, List.set_cons_succ]
      refine AnyF.takeD (i := 5) (d := 16) (.int .i64 (lit5 x)) rfl rfl rfl (by kernel_rfl) (by kernel_rfl) (by kernel_rfl) (by kernel_rfl) (by kernel_rfl) (fun _ _ _ h => h) S2 (Or.inl ⟨by rfl, fun w' h => (by have hc := lit5_cell h.2 x5'; clear h; go_simp)⟩) (fun _ => by rfl) ?_
      simp only [Act.put, List.setIfInBounds_toArray, List.set_cons_zero, List.set_cons_succ]
      refine AnyF.one (i := 7) rfl (by kernel_rfl) (fun K1 hK1 => ?_)
      go_simp
      refine ⟨trivial, ?_⟩
      refine (callsIn_wide.2 (off_any _ rb a n cap 0 3 _ (by omega) (by omega) R2)).mono ?_
      rintro e v3 ⟨lv, rfl, R3, g3⟩
      have lt3 := R2.lt
      have Z3 := Z2.grown g3 (by simp; omega)
      have X3 := X2.grown g3 (by simp; omega)
      have Y3 := Y2.grown g3 (by simp; omega)
      have E3 := E2.grown g3 E2.size (fun j e => by cases e; omega)
      have P3 := P2.keptR g3 (by omega)
      have S3 := (show (v3.cell? ⟨Z, 0, none⟩ = some (.int .i64 b1) ∧ v3.cell? ⟨Z, 1, none⟩ = some (.slice a1 l1.length c1)) ∧ Blk v3 q (.cells #[.int .i64 1001, .int .i64 2001, .int .i64 3001, .int .i64 5, .int .i64 7] 2) from ⟨Z3.two, Y3⟩)
      refine hK1.out _ _ (fun _ => S3) ?_
      clear hK1 K1 Z2 X2 E2 P2 R2 Y2 g3 S2 
      obtain ⟨x0, x1⟩ := X3.two
      have xf0 := X3.frozen2 0
      have xf1 := X3.frozen2 1
      refine AnyF.one (i := 8) rfl (by kernel_rfl) (fun K1 hK1 => ?_)
      go_simp
      have Z4 := Z3.far2 (P := w.heap.size) (by omega) (.int .i64 b1) (.slice a1 l1.length c1)
      have Y4 := Y3.far2 (P := w.heap.size) (by omega) (.int .i64 b1) (.slice a1 l1.length c1)
      have X4 := (X3.set0 (.int .i64 b1)).set1 (.slice a1 l1.length c1)
      have E4 := (E3.setCell (p := ⟨w.heap.size, 0, none⟩) (Nat.le_refl _) (.int .i64 b1)).setCell (p := ⟨w.heap.size, 1, none⟩) (Nat.le_refl _) (.slice a1 l1.length c1)
      have P4 := (P3.set (P := w.heap.size) (by omega) 0 (.int .i64 b1)).set (P := w.heap.size) (by omega) 1 (.slice a1 l1.length c1)
      have R4 : Rd _ _ rb a n cap := (R3.setw rl 0 (.int .i64 b1)).setw rl 1 (.slice a1 l1.length c1)
      clear Z3 X3 E3 P3 R3 Y3 x0 x1 xf0 xf1
      generalize (v3.setCell ⟨w.heap.size, 0, none⟩ (.int .i64 b1)).setCell ⟨w.heap.size, 1, none⟩ (.slice a1 l1.length c1) = v4 at *
      have S4 := (show (v4.cell? ⟨Z, 0, none⟩ = some (.int .i64 b1) ∧ v4.cell? ⟨Z, 1, none⟩ = some (.slice a1 l1.length c1)) ∧ Blk v4 q (.cells #[.int .i64 1001, .int .i64 2001, .int .i64 3001, .int .i64 5, .int .i64 7] 2) from ⟨Z4.two, Y4⟩)
      refine hK1.out _ _ (fun _ => S4) ?_
      clear hK1 K1  S3 
      refine AnyF.takeD (i := 9) (d := 3) (.int .i64 (lit5 x)) rfl rfl rfl (by kernel_rfl) (by kernel_rfl) (by kernel_rfl) (by kernel_rfl) (by kernel_rfl) (fun _ _ _ h => h) S4 (Or.inl ⟨by rfl, fun w' h => (by dsimp only at h; go_simp)⟩) (fun _ => by rfl) ?_
      simp only [Act.put, List.setIfInBounds_toArray, List.set_cons_zero, List.set_cons_succ]
      refine AnyF.takeD (i := 10) (d := 4) (.int .i64 lv) rfl rfl rfl (by kernel_rfl) (by kernel_rfl) (by kernel_rfl) (by kernel_rfl) (by kernel_rfl) (fun _ _ _ h => h) S4 (Or.inl ⟨by rfl, fun w' h => (by dsimp only at h; go_simp)⟩) (fun _ => by rfl) ?_
      simp only [Act.put, List.setIfInBounds_toArray, List.set_cons_zero, List.set_cons_succ]
      refine AnyF.done (by kernel_rfl) ?_
      obtain ⟨x0, x1⟩ := X4.two
      go_wp2
      refine bodyPost_ret (v := .tuple #[.agg #[.int .i64 b1, .slice a1 l1.length c1], .int .i64 (lit5 x), .int .i64 lv]) (by simp [results, Try.results11, go_sem, x0, x1]) rfl ⟨b1, l1, a1, c1, lit5 x, lv, rfl, l13, lit5_ok x, OwnCats.cats P4, E4⟩
    · go_simp
      refine ⟨trivial, ?_⟩
      refine (callsIn_wide.2 (off_any _ rb a n cap 0 3 _ (by omega) (by omega) R1)).mono ?_
      rintro e v2 ⟨lv, rfl, R2, g2⟩
      have lt2 := R1.lt
      have Z2 := Z1.grown g2 (by simp; omega)
      have X2 := X1.grown g2 (by simp; omega)
      have E2 := E1.grown g2 E1.size (fun j e => by cases e; omega)
      have P2 := P1.keptR g2 (by omega)
      have S2 := (show v2.cell? ⟨Z, 0, none⟩ = some (.int .i64 b1) ∧ v2.cell? ⟨Z, 1, none⟩ = some (.slice a1 l1.length c1) from Z2.two)
      refine hK1.out _ _ (fun _ => S2) ?_
      clear hK1 K1 Z1 X1 E1 P1 R1 g2 S1 
      obtain ⟨x0, x1⟩ := X2.two
      have xf0 := X2.frozen2 0
      have xf1 := X2.frozen2 1
      refine AnyF.two (i := 1) (j := 8) rfl rfl (by kernel_rfl) (fun K1 hK1 => ?_) (fun K1 hK1 => ?_)
      · go_simp
        have K3 := (Below.refl _ v2).alloc (Nat.le_refl _) (.cells #[.int .i64 1001, .int .i64 2001, .int .i64 3001, .int .i64 5, .int .i64 7] 2)
        have Y3 := Blk.new v2 (.cells #[.int .i64 1001, .int .i64 2001, .int .i64 3001, .int .i64 5, .int .i64 7] 2)
        have rq : rb < v2.heap.size := R2.lt
        have zq : Z < v2.heap.size := Z2.lt
        have xq : w.heap.size < v2.heap.size := X2.lt
        have Z3 := Z2.below K3
        have X3 := X2.below K3
        have R3 := R2.below K3
        have E3 := E2.trans (K3.mono E2.size)
        have P3 := OwnList.below P2 K3
        clear Z2 X2 E2 P2 R2 K3
        generalize v2.alloc (.cells #[.int .i64 1001, .int .i64 2001, .int .i64 3001, .int .i64 5, .int .i64 7] 2) = v3 at *
        generalize v2.heap.size = q at *
        have S3 := (show (v3.cell? ⟨Z, 0, none⟩ = some (.int .i64 b1) ∧ v3.cell? ⟨Z, 1, none⟩ = some (.slice a1 l1.length c1)) ∧ Blk v3 q (.cells #[.int .i64 1001, .int .i64 2001, .int .i64 3001, .int .i64 5, .int .i64 7] 2) from ⟨Z3.two, Y3⟩)
        refine hK1.out _ _ (fun _ => S3.1) ?_
        clear hK1 K1 S2
        refine AnyF.weaken (S' := fun w' => (w'.cell? ⟨Z, 0, none⟩ = some (.int .i64 b1) ∧ w'.cell? ⟨Z, 1, none⟩ = some (.slice a1 l1.length c1)) ∧ Blk w' q (.cells #[.int .i64 1001, .int .i64 2001, .int .i64 3001, .int .i64 5, .int .i64 7] 2)) (fun _ h => h.1) ?_
        refine AnyF.takeD (i := 4) (d := 15) (.pointer (some ⟨q, x, none⟩)) rfl rfl rfl (by kernel_rfl) (by kernel_rfl) (by kernel_rfl) (by kernel_rfl) (by kernel_rfl) (fun _ _ _ h => h) S3 (Or.inl ⟨by rfl, fun w' h => (by dsimp only at h; go_simp)⟩) (fun _ => by rfl) ?_
        simp only [Act.put, List.setIfInBounds_toArray, List.set_cons_zero, List.set_cons_succ]
        refine AnyF.takeD (i := 5) (d := 16) (.int .i64 (lit5 x)) rfl rfl rfl (by kernel_rfl) (by kernel_rfl) (by kernel_rfl) (by kernel_rfl) (by kernel_rfl) (fun _ _ _ h => h) S3 (Or.inl ⟨by rfl, fun w' h => (by have hc := lit5_cell h.2 x5'; clear h; go_simp)⟩) (fun _ => by rfl) ?_
        simp only [Act.put, List.setIfInBounds_toArray, List.set_cons_zero, List.set_cons_succ]
        obtain ⟨x0, x1⟩ := X3.two
        have xf0 := X3.frozen2 0
        have xf1 := X3.frozen2 1
        refine AnyF.one (i := 8) rfl (by kernel_rfl) (fun K1 hK1 => ?_)
        go_simp
        have Z4 := Z3.far2 (P := w.heap.size) (by omega) (.int .i64 b1) (.slice a1 l1.length c1)
        have Y4 := Y3.far2 (P := w.heap.size) (by omega) (.int .i64 b1) (.slice a1 l1.length c1)
        have X4 := (X3.set0 (.int .i64 b1)).set1 (.slice a1 l1.length c1)
        have E4 := (E3.setCell (p := ⟨w.heap.size, 0, none⟩) (Nat.le_refl _) (.int .i64 b1)).setCell (p := ⟨w.heap.size, 1, none⟩) (Nat.le_refl _) (.slice a1 l1.length c1)
        have P4 := (P3.set (P := w.heap.size) (by omega) 0 (.int .i64 b1)).set (P := w.heap.size) (by omega) 1 (.slice a1 l1.length c1)
        have R4 : Rd _ _ rb a n cap := (R3.setw rl 0 (.int .i64 b1)).setw rl 1 (.slice a1 l1.length c1)
        clear Z3 X3 E3 P3 R3 Y3 x0 x1 xf0 xf1
        generalize (v3.setCell ⟨w.heap.size, 0, none⟩ (.int .i64 b1)).setCell ⟨w.heap.size, 1, none⟩ (.slice a1 l1.length c1) = v4 at *
        have S4 := (show (v4.cell? ⟨Z, 0, none⟩ = some (.int .i64 b1) ∧ v4.cell? ⟨Z, 1, none⟩ = some (.slice a1 l1.length c1)) ∧ Blk v4 q (.cells #[.int .i64 1001, .int .i64 2001, .int .i64 3001, .int .i64 5, .int .i64 7] 2) from ⟨Z4.two, Y4⟩)
        refine hK1.out _ _ (fun _ => S4) ?_
        clear hK1 K1  S3 
        refine AnyF.takeD (i := 9) (d := 3) (.int .i64 (lit5 x)) rfl rfl rfl (by kernel_rfl) (by kernel_rfl) (by kernel_rfl) (by kernel_rfl) (by kernel_rfl) (fun _ _ _ h => h) S4 (Or.inl ⟨by rfl, fun w' h => (by dsimp only at h; go_simp)⟩) (fun _ => by rfl) ?_
        simp only [Act.put, List.setIfInBounds_toArray, List.set_cons_zero, List.set_cons_succ]
        refine AnyF.takeD (i := 10) (d := 4) (.int .i64 lv) rfl rfl rfl (by kernel_rfl) (by kernel_rfl) (by kernel_rfl) (by kernel_rfl) (by kernel_rfl) (fun _ _ _ h => h) S4 (Or.inl ⟨by rfl, fun w' h => (by dsimp only at h; go_simp)⟩) (fun _ => by rfl) ?_
        simp only [Act.put, List.setIfInBounds_toArray, List.set_cons_zero, List.set_cons_succ]
        refine AnyF.done (by kernel_rfl) ?_
        obtain ⟨x0, x1⟩ := X4.two
        go_wp2
        refine bodyPost_ret (v := .tuple #[.agg #[.int .i64 b1, .slice a1 l1.length c1], .int .i64 (lit5 x), .int .i64 lv]) (by simp [results, Try.results11, go_sem, x0, x1]) rfl ⟨b1, l1, a1, c1, lit5 x, lv, rfl, l13, lit5_ok x, OwnCats.cats P4, E4⟩
      · go_simp
        have Z3 := Z2.far2 (P := w.heap.size) (by omega) (.int .i64 b1) (.slice a1 l1.length c1)
        have X3 := (X2.set0 (.int .i64 b1)).set1 (.slice a1 l1.length c1)
        have E3 := (E2.setCell (p := ⟨w.heap.size, 0, none⟩) (Nat.le_refl _) (.int .i64 b1)).setCell (p := ⟨w.heap.size, 1, none⟩) (Nat.le_refl _) (.slice a1 l1.length c1)
        have P3 := (P2.set (P := w.heap.size) (by omega) 0 (.int .i64 b1)).set (P := w.heap.size) (by omega) 1 (.slice a1 l1.length c1)
        have R3 : Rd _ _ rb a n cap := (R2.setw rl 0 (.int .i64 b1)).setw rl 1 (.slice a1 l1.length c1)
        clear Z2 X2 E2 P2 R2 x0 x1 xf0 xf1
        generalize (v2.setCell ⟨w.heap.size, 0, none⟩ (.int .i64 b1)).setCell ⟨w.heap.size, 1, none⟩ (.slice a1 l1.length c1) = v3 at *
        have S3 := (show v3.cell? ⟨Z, 0, none⟩ = some (.int .i64 b1) ∧ v3.cell? ⟨Z, 1, none⟩ = some (.slice a1 l1.length c1) from Z3.two)
        refine hK1.out _ _ (fun _ => S3) ?_
        clear hK1 K1  S2 
        refine AnyF.one (i := 1) rfl (by kernel_rfl) (fun K1 hK1 => ?_)
        go_simp
        have K4 := (Below.refl _ v3).alloc (Nat.le_refl _) (.cells #[.int .i64 1001, .int .i64 2001, .int .i64 3001, .int .i64 5, .int .i64 7] 2)
        have Y4 := Blk.new v3 (.cells #[.int .i64 1001, .int .i64 2001, .int .i64 3001, .int .i64 5, .int .i64 7] 2)
        have rq : rb < v3.heap.size := R3.lt
        have zq : Z < v3.heap.size := Z3.lt
        have xq : w.heap.size < v3.heap.size := X3.lt
        have Z4 := Z3.below K4
        have X4 := X3.below K4
        have R4 := R3.below K4
        have E4 := E3.trans (K4.mono E3.size)
        have P4 := OwnList.below P3 K4
        clear Z3 X3 E3 P3 R3 K4
        generalize v3.alloc (.cells #[.int .i64 1001, .int .i64 2001, .int .i64 3001, .int .i64 5, .int .i64 7] 2) = v4 at *
        generalize v3.heap.size = q at *
        have S4 := (show (v4.cell? ⟨Z, 0, none⟩ = some (.int .i64 b1) ∧ v4.cell? ⟨Z, 1, none⟩ = some (.slice a1 l1.length c1)) ∧ Blk v4 q (.cells #[.int .i64 1001, .int .i64 2001, .int .i64 3001, .int .i64 5, .int .i64 7] 2) from ⟨Z4.two, Y4⟩)
        refine hK1.out _ _ (fun _ => S4.1) ?_
        clear hK1 K1 S3
        refine AnyF.weaken (S' := fun w' => (w'.cell? ⟨Z, 0, none⟩ = some (.int .i64 b1) ∧ w'.cell? ⟨Z, 1, none⟩ = some (.slice a1 l1.length c1)) ∧ Blk w' q (.cells #[.int .i64 1001, .int .i64 2001, .int .i64 3001, .int .i64 5, .int .i64 7] 2)) (fun _ h => h.1) ?_
        refine AnyF.takeD (i := 4) (d := 15) (.pointer (some ⟨q, x, none⟩)) rfl rfl rfl (by kernel_rfl) (by kernel_rfl) (by kernel_rfl) (by kernel_rfl) (by kernel_rfl) (fun _ _ _ h => h) S4 (Or.inl ⟨by rfl, fun w' h => (by dsimp only at h; go_simp)⟩) (fun _ => by rfl) ?_
        simp only [Act.put, List.setIfInBounds_toArray, List.set_cons_zero, List.set_cons_succ]
        refine AnyF.takeD (i := 5) (d := 16) (.int .i64 (lit5 x)) rfl rfl rfl (by kernel_rfl) (by kernel_rfl) (by kernel_rfl) (by kernel_rfl) (by kernel_rfl) (fun _ _ _ h => h) S4 (Or.inl ⟨by rfl, fun w' h => (by have hc := lit5_cell h.2 x5'; clear h; go_simp)⟩) (fun _ => by rfl) ?_
        simp only [Act.put, List.setIfInBounds_toArray, List.set_cons_zero, List.set_cons_succ]
        refine AnyF.takeD (i := 9) (d := 3) (.int .i64 (lit5 x)) rfl rfl rfl (by kernel_rfl) (by kernel_rfl) (by kernel_rfl) (by kernel_rfl) (by kernel_rfl) (fun _ _ _ h => h) S4 (Or.inl ⟨by rfl, fun w' h => (by dsimp only at h; go_simp)⟩) (fun _ => by rfl) ?_
        simp only [Act.put, List.setIfInBounds_toArray, List.set_cons_zero, List.set_cons_succ]
        refine AnyF.takeD (i := 10) (d := 4) (.int .i64 lv) rfl rfl rfl (by kernel_rfl) (by kernel_rfl) (by kernel_rfl) (by kernel_rfl) (by kernel_rfl) (fun _ _ _ h => h) S4 (Or.inl ⟨by rfl, fun w' h => (by dsimp only at h; go_simp)⟩) (fun _ => by rfl) ?_
        simp only [Act.put, List.setIfInBounds_toArray, List.set_cons_zero, List.set_cons_succ]
        refine AnyF.done (by kernel_rfl) ?_
        obtain ⟨x0, x1⟩ := X4.two
        go_wp2
        refine bodyPost_ret (v := .tuple #[.agg #[.int .i64 b1, .slice a1 l1.length c1], .int .i64 (lit5 x), .int .i64 lv]) (by simp [results, Try.results11, go_sem, x0, x1]) rfl ⟨b1, l1, a1, c1, lit5 x, lv, rfl, l13, lit5_ok x, OwnCats.cats P4, E4⟩
end Go.Proofs.Ytjolkbcnglhebaa
