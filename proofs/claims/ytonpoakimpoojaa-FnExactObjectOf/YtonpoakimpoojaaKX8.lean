/- Marks in threads that a call made. -/
import Derived.Test.YtonpoakimpoojaaKX7
import Derived.Test.YtonpoakimpoojaaKN1
namespace Go.Proofs.Ytonpoakimpoojaa
open Go Go.RowKit Go.Deep Go.Maps

def mk1 (k0 : Int) (i : Nat) : Int := k0 + 2 * i
def mk2 (k0 : Int) (i : Nat) : Int := k0 + 2 * i + 1

/-- a slice of categories that may be written: it begins block b -/
def RowAt (w : World) (a : Option Addr) (b n : Nat) : Prop := 0 < n → a = some ⟨b, 0, none⟩ ∧ ∃ m F, n * 2 ≤ m ∧ w.rowIs b 112 m F

theorem RowAt.of_row {w : World} {b n : Nat} {F : Nat → Value} (h : w.rowIs b 112 (n * 2) F) : RowAt w (some ⟨b, 0, none⟩) b n := fun _ => ⟨rfl, n * 2, F, Nat.le_refl _, h⟩
theorem RowAt.below {w w' : World} {a : Option Addr} {b n : Nat} (h : RowAt w a b n) (hb : Below w.heap.size w w') : RowAt w' a b n := fun h0 => by
  obtain ⟨e, m, F, hm, hr⟩ := h h0
  exact ⟨e, m, F, hm, hr.of_block (hb.block b hr.lt)⟩
theorem RowAt.grown {w w' : World} {a : Option Addr} {b n : Nat} {row : Option Nat} (h : RowAt w a b n) (hg : w.grownBy w' row) (hne : some b ≠ row) : RowAt w' a b n := fun h0 => by
  obtain ⟨e, m, F, hm, hr⟩ := h h0
  exact ⟨e, m, F, hm, hr.of_block (hg.block b hr.lt hne)⟩

set_option maxRecDepth 100000 in
set_option maxHeartbeats 1000000 in
theorem markCatS_any (a : Option Addr) (b n cap : Nat) (k0 : Int) (w : World) (hn : n ≤ 1048576) (h0 : 0 ≤ k0) (h1 : k0 ≤ 1000000000000) (hr : RowAt w a b n) :
    Calls Try.prog 77 #[.slice a n cap, .int .i64 k0] w fun e w' => e = .returned (.int .i64 (k0 + 2 * n)) ∧ w.grownBy w' (some b) ∧ CatsAt w' a n (mk1 k0) (mk2 k0) := by
  go_enter Try.func77, Try.ntmps77
  go_wp2
  go_loopw [1, 5] (fun kk i wr => ∃ j : Nat, j ≤ n ∧ i = .int .i64 j ∧ kk = .int .i64 (k0 + 2 * j) ∧ w.grownBy wr (some b) ∧ RowAt wr a b n ∧ (∀ i, i < j → wr.cell? ⟨b, i * 2, none⟩ = some (.int .i64 (mk1 k0 i)) ∧ wr.cell? ⟨b, i * 2 + 1, none⟩ = some (.int .i64 (mk2 k0 i)))) (fun _ i _ => n - (intOf i).toNat)
  case atStart => exact ⟨0, Nat.zero_le _, rfl, by simp, grown_refl _ _, hr, fun i hi => by omega⟩
  case round =>
    obtain ⟨j, hj, rfl, rfl, hg, hrow, hcells⟩ := hrel
    have HCL : Hid (∀ i, i < j → wr.cell? ⟨b, i * 2, none⟩ = some (.int .i64 (mk1 k0 i)) ∧ wr.cell? ⟨b, i * 2 + 1, none⟩ = some (.int .i64 (mk2 k0 i))) := hcells
    clear hcells
    by_cases hlt : j < n
    · obtain ⟨rfl, m, F, hm, hR⟩ := hrow (by omega)
      have c1 := hR.cell (i := j * 2) (by omega)
      have c2 := hR.cell (i := j * 2 + 1) (by omega)
      have f1 := hR.frozen (j * 2)
      have f2 := hR.frozen (j * 2 + 1)
      have HR : Hid (wr.rowIs b 112 m F) := hR
      clear hR hrow hr
      go_wp2
      go_roundw
      case rel =>
        have R1 := (HR.out.set (j * 2) (.int .i64 (k0 + 2 * j))).set (j * 2 + 1) (.int .i64 (k0 + 2 * j + 1))
        refine ⟨j + 1, by omega, by go_num, by go_num, grown_set (grown_set hg _ _) _ _, fun _ => ⟨rfl, m, _, hm, R1⟩, fun i hi => ⟨?_, ?_⟩⟩
        · rw [R1.cell (i := i * 2) (by omega)]
          have e1 : ¬ i * 2 = j * 2 + 1 := by omega
          rw [if_neg e1]
          by_cases e : i = j
          · subst e; rw [if_pos rfl]; rfl
          · have e2 : ¬ i * 2 = j * 2 := by omega
            rw [if_neg e2, ← HR.out.cell (i := i * 2) (by omega)]
            exact (HCL.out i (by omega)).1
        · rw [R1.cell (i := i * 2 + 1) (by omega)]
          by_cases e : i = j
          · subst e; rw [if_pos rfl]; rfl
          · have e1 : ¬ i * 2 + 1 = j * 2 + 1 := by omega
            have e2 : ¬ i * 2 + 1 = j * 2 := by omega
            rw [if_neg e1, if_neg e2, ← HR.out.cell (i := i * 2 + 1) (by omega)]
            exact (HCL.out i (by omega)).2
      case measure => simp [intOf]; omega
    · go_wp2
      go_ret
      have e : j = n := by omega
      subst e
      refine ⟨rfl, hg, fun h => ?_⟩
      obtain ⟨rfl, m, F, hm, hR⟩ := hrow h
      exact ⟨b, 0, rfl, hR.lt, fun i hi => by rw [Nat.zero_add]; exact HCL.out i hi⟩

set_option maxRecDepth 100000 in
set_option maxHeartbeats 1000000 in
theorem markLabel_any (base : Int) (a : Option Addr) (b n cap : Nat) (k0 : Int) (w : World) (hn : n ≤ 1048576) (h0 : 0 ≤ k0) (h1 : k0 ≤ 1000000000000) (hr : RowAt w a b n) :
    Calls Try.prog 53 #[.agg #[.int .i64 base, .slice a n cap], .int .i64 k0] w fun e w' => e = .returned (.int .i64 (k0 + 2 * n)) ∧ w.grownBy w' (if 0 < n then some b else none) ∧ CatsAt w' a n (mk1 k0) (mk2 k0) := by
  have hb0 := (Below.refl _ w).alloc (Nat.le_refl _) (.cells #[.int .i64 base, .slice a n cap] 37)
  have hr0 := hr.below hb0
  have g0 := World.grownBy_alloc w (.cells #[.int .i64 base, .slice a n cap] 37) none
  go_enter Try.func53, Try.ntmps53
  go_wp2_with fail
  by_cases hp : 0 < n
  · refine (markCatS_any _ b _ _ _ _ hn h0 h1 hr0).mono ?_
    rintro e w1 ⟨rfl, hg, hc⟩
    go_wp2
    go_ret
    exact ⟨rfl, ⟨hg.os.trans g0.os, hg.tape.trans g0.tape, hg.output.trans g0.output, Nat.le_trans g0.size hg.size, fun k hk hne => (hg.block k (Nat.lt_of_lt_of_le hk g0.size) hne).trans (g0.block k hk (by simp))⟩, hc⟩
  · refine (markCatS_any _ w.heap.size _ _ _ _ hn h0 h1 (fun h => absurd h hp)).mono ?_
    rintro e w1 ⟨rfl, hg, hc⟩
    go_wp2
    go_ret
    exact ⟨rfl, ⟨hg.os.trans g0.os, hg.tape.trans g0.tape, hg.output.trans g0.output, Nat.le_trans g0.size hg.size, fun k hk _ => (hg.block k (Nat.lt_of_lt_of_le hk g0.size) (by simp; omega)).trans (g0.block k hk (by simp))⟩, hc⟩

set_option maxHeartbeats 1000000 in
theorem heldCatS_any (a : Option Addr) (n cap : Nat) (k0 : Int) (w : World) (hn : n ≤ 1048576) (h0 : 0 ≤ k0) (h1 : k0 ≤ 1000000000000) (hc : CatsAt w a n (mk1 k0) (mk2 k0)) :
    Calls Try.prog 79 #[.slice a n cap, .int .i64 k0] w fun e w' => e = .returned (.int .i64 (k0 + 2 * n)) ∧ w' = w := by
  go_enter Try.func79, Try.ntmps79
  go_wp2
  go_loop [1, 5] (fun kk i => ∃ j : Nat, j ≤ n ∧ i = .int .i64 j ∧ kk = .int .i64 (k0 + 2 * j)) (fun _ i => n - (intOf i).toNat)
  case atStart => exact ⟨0, Nat.zero_le _, rfl, by simp⟩
  case round =>
    obtain ⟨j, hj, rfl, rfl⟩ := hrel
    by_cases hlt : j < n
    · obtain ⟨b, off, rfl, hbl, hcc⟩ := hc (by omega)
      obtain ⟨c1, c2⟩ := hcc j hlt
      unfold mk1 at c1
      unfold mk2 at c2
      clear hcc hc
      go_wp2
      go_round
      case rel => exact ⟨j + 1, by omega, by go_num, by go_num⟩
      case measure => simp [intOf]; omega
    · clear hc
      go_wp2
      go_ret
      have e : j = n := by omega
      subst e
      exact ⟨rfl, rfl⟩

set_option maxHeartbeats 1000000 in
theorem heldLabel_any (base : Int) (a : Option Addr) (n cap : Nat) (k0 : Int) (w : World) (hn : n ≤ 1048576) (h0 : 0 ≤ k0) (h1 : k0 ≤ 1000000000000) (hc : CatsAt w a n (mk1 k0) (mk2 k0)) :
    Calls Try.prog 55 #[.agg #[.int .i64 base, .slice a n cap], .int .i64 k0] w fun e w' => e = .returned (.int .i64 (k0 + 2 * n)) ∧ Below w.heap.size w w' := by
  have hb0 := (Below.refl _ w).alloc (Nat.le_refl _) (.cells #[.int .i64 base, .slice a n cap] 37)
  go_enter Try.func55, Try.ntmps55
  go_wp2_with fail
  refine (heldCatS_any _ _ _ _ _ hn h0 h1 (hc.below hb0)).mono ?_
  rintro e w1 ⟨rfl, rfl⟩
  have : ¬ k0 + 2 * (n : Int) < 0 := by omega
  go_wp2
  go_ret
  exact ⟨rfl, hb0⟩

/-- b is a row of the thread's -/
def ThrV.has (g : ThrV) (b : Nat) : Prop := (0 < g.c1.n ∧ g.c1.a = some ⟨b, 0, none⟩) ∨ (0 < g.c2.n ∧ g.c2.a = some ⟨b, 0, none⟩) ∨ (0 < g.own.n ∧ g.own.a = some ⟨b, 0, none⟩)
structure Touched (H : Nat → Prop) (w w' : World) : Prop where
  os : w'.os = w.os
  tape : w'.tape = w.tape
  output : w'.output = w.output
  size : w.heap.size ≤ w'.heap.size
  block : ∀ k, k < w.heap.size → ¬ H k → w'.heap[k]? = w.heap[k]?
theorem Touched.trans {H : Nat → Prop} {a b c : World} (h : Touched H a b) (k : Touched H b c) : Touched H a c :=
  ⟨k.os.trans h.os, k.tape.trans h.tape, k.output.trans h.output, Nat.le_trans h.size k.size, fun j hj hn => (k.block j (Nat.lt_of_lt_of_le hj h.size) hn).trans (h.block j hj hn)⟩
theorem Touched.of_grown {H : Nat → Prop} {w w' : World} {row : Option Nat} (h : w.grownBy w' row) (hr : ∀ j, row = some j → H j) : Touched H w w' :=
  ⟨h.os, h.tape, h.output, h.size, fun k hk hn => h.block k hk (fun e => hn (hr k e.symm))⟩
theorem Touched.below {H : Nat → Prop} {w0 w w' : World} (h0 : Below w0.heap.size w0 w) (h : Touched H w w') (hH : ∀ k, H k → w0.heap.size ≤ k) : Below w0.heap.size w0 w' :=
  ⟨h.os.trans h0.os, h.tape.trans h0.tape, h.output.trans h0.output, Nat.le_trans h0.size h.size, fun k hk => (h.block k (Nat.lt_of_lt_of_le hk h0.size) (fun e => by have := hH k e; omega)).trans (h0.block k hk)⟩
theorem Touched.blk {H : Nat → Prop} {w w' : World} {P : Nat} {o : Obj} (h : Touched H w w') (hP : Blk w P o) (hn : ¬ H P) : Blk w' P o := (h.block P hP.lt hn).trans hP
theorem CatL.new.rowAt {B : Nat} {w : World} {c : CatL} (h : c.new B w) : ∃ b, RowAt w c.a b c.n ∧ (0 < c.n → c.a = some ⟨b, 0, none⟩) := by
  by_cases hn : 0 < c.n
  · obtain ⟨b, m, F, e, _, h2, h3⟩ := h.2 hn
    exact ⟨b, fun _ => ⟨e, m, F, h2, h3⟩, fun _ => e⟩
  · exact ⟨0, fun h => absurd h hn, fun h => absurd h hn⟩
theorem IntL.new.rowI {B : Nat} {w : World} {c : IntL} (h : c.new B w) : ∃ b, RowI w c.a b c.n ∧ (0 < c.n → c.a = some ⟨b, 0, none⟩) ∧ (¬ 0 < c.n → w.heap.size ≤ b) := by
  by_cases hn : 0 < c.n
  · obtain ⟨b, m, F, e, _, h2, h3⟩ := h.2 hn
    exact ⟨b, fun _ => ⟨e, m, F, h2, h3⟩, fun _ => e, fun h => absurd hn h⟩
  · exact ⟨w.heap.size, fun h => absurd h hn, fun h => absurd h hn, fun _ => Nat.le_refl _⟩
theorem CatsAt.of_block {w w' : World} {a : Option Addr} {n : Nat} {f g : Nat → Int} (h : CatsAt w a n f g) (hs : w.heap.size ≤ w'.heap.size) (hb : 0 < n → ∀ b off, a = some ⟨b, off, none⟩ → w'.heap[b]? = w.heap[b]?) : CatsAt w' a n f g := fun hn => by
  obtain ⟨b, off, e, hlt, hc⟩ := h hn
  have ce : ∀ o, w'.cell? ⟨b, o, none⟩ = w.cell? ⟨b, o, none⟩ := fun o => World.cell?_of_block (a := ⟨b, o, none⟩) (hb hn b off e)
  exact ⟨b, off, e, Nat.lt_of_lt_of_le hlt hs, fun i hi => by rw [ce, ce]; exact hc i hi⟩
/-- the marks stand -/
def MarkedT (g : ThrV) (w : World) : Prop := CatsAt w g.c1.a g.c1.n (mk1 1) (mk2 1) ∧ CatsAt w g.c2.a g.c2.n (mk1 (1 + 2 * g.c1.n)) (mk2 (1 + 2 * g.c1.n)) ∧ IntsAt w g.own.a g.own.n (mkI (1 + 2 * g.c1.n + 2 * g.c2.n))
theorem MarkedT.below {g : ThrV} {w w' : World} (h : MarkedT g w) (hb : Below w.heap.size w w') : MarkedT g w' := ⟨h.1.below hb, h.2.1.below hb, h.2.2.below hb⟩

set_option maxRecDepth 100000 in
set_option maxHeartbeats 4000000 in
theorem markThread_r (g : ThrV) (B : Nat) (w : World) (hg : g.new B w) (ha : g.apart) (hs : g.small) :
    Calls Try.prog 22 #[g.val, .int .i64 1] w fun e w' => e = .returned (.int .i64 (1 + 2 * g.c1.n + 2 * g.c2.n + g.own.n)) ∧ MarkedT g w' ∧ Touched g.has w w' := by
  obtain ⟨s1, s2, s3⟩ := hs
  have b0 : Below w.heap.size w (w.alloc (.cells #[.int .i64 g.id, .int .i64 g.b1, g.c1.val, .int .i64 g.b2, g.c2.val, g.own.val, .int .i64 g.made] 49)) := (Below.refl _ w).alloc (Nat.le_refl _) _
  have A0 := Blk.new w (.cells #[.int .i64 g.id, .int .i64 g.b1, g.c1.val, .int .i64 g.b2, g.c2.val, g.own.val, .int .i64 g.made] 49)
  have G0 := hid (hg.below b0)
  have T0 : Hid (Touched g.has w (w.alloc (.cells #[.int .i64 g.id, .int .i64 g.b1, g.c1.val, .int .i64 g.b2, g.c2.val, g.own.val, .int .i64 g.made] 49))) := hid (Touched.of_grown (World.grownBy_alloc w _ none) (fun j hj => by cases hj))
  have HA := hid ha
  have D13 : Hid (∀ b b', g.c1.a = some ⟨b, 0, none⟩ → 0 < g.c1.n → g.own.a = some ⟨b', 0, none⟩ → 0 < g.own.n → b ≠ b') := hid (fun b b' h2 h1 hb hn => by
    obtain ⟨b1, _, _, q1, _, _, r1⟩ := hg.1.2 h1
    obtain ⟨b2, _, _, q2, _, _, r2⟩ := hg.2.2.2 hn
    rw [h2] at q1
    rw [hb] at q2
    cases q1
    cases q2
    exact row_ne r1 r2 (by decide))
  have D23 : Hid (∀ b b', g.c2.a = some ⟨b, 0, none⟩ → 0 < g.c2.n → g.own.a = some ⟨b', 0, none⟩ → 0 < g.own.n → b ≠ b') := hid (fun b b' h2 h1 hb hn => by
    obtain ⟨b1, _, _, q1, _, _, r1⟩ := hg.2.1.2 h1
    obtain ⟨b2, _, _, q2, _, _, r2⟩ := hg.2.2.2 hn
    rw [h2] at q1
    rw [hb] at q2
    cases q1
    cases q2
    exact row_ne r1 r2 (by decide))
  obtain ⟨d1, R1, E1⟩ := G0.out.1.rowAt
  have C1 := hid (markLabel_any g.b1 g.c1.a d1 g.c1.n g.c1.k 1 _ s1 (by omega) (by omega) R1)
  have ER1 := hid E1
  unfold ThrV.val
  obtain ⟨x0, x1, x2, x3, x4, x5, x6⟩ := A0.seven
  clear hg ha R1 E1 b0
  unfold CatL.val IntL.val at *
  go_enter Try.func22, Try.ntmps22
  go_wp2_with fail
  refine C1.out.mono ?_
  rintro e w1 ⟨rfl, g1, c1⟩
  have ne1 : ∀ b, (if 0 < g.c1.n then some d1 else none) = some b → 0 < g.c1.n ∧ g.c1.a = some ⟨b, 0, none⟩ := fun b hb => by
    split at hb
    · rename_i h; cases hb; exact ⟨h, ER1.out h⟩
    · cases hb
  have G1 : Hid (g.c2.new B w1 ∧ g.own.new B w1) := hid ⟨G0.out.2.1.of g1.size (fun b hb hn => g1.block b (by obtain ⟨b', m, F, e', _, _, hr⟩ := G0.out.2.1.2 hn; rw [hb] at e'; cases e'; exact hr.lt) (fun e => HA.out b b (ne1 b e.symm).2 (ne1 b e.symm).1 hb hn rfl)), G0.out.2.2.of g1.size (fun b hb hn => g1.block b (by obtain ⟨b', m, F, e', _, _, hr⟩ := G0.out.2.2.2 hn; rw [hb] at e'; cases e'; exact hr.lt) (fun e => by
    obtain ⟨h1, h2⟩ := ne1 b e.symm
    obtain ⟨b1, _, _, q1, _, _, r1⟩ := G0.out.1.2 h1
    obtain ⟨b2, _, _, q2, _, _, r2⟩ := G0.out.2.2.2 hn
    rw [h2] at q1
    rw [hb] at q2
    cases q1
    cases q2
    exact row_ne r1 r2 (by decide) rfl))⟩
  have A1 := A0.grown g1 (fun e => by
    obtain ⟨h1, h2⟩ := ne1 _ e.symm
    exact G0.out.1.ne A0 (by decide) _ h2 h1 rfl)
  have T1 := hid (T0.out.trans (Touched.of_grown g1 (fun j hj => .inl (ne1 j hj))))
  have M1 := hid c1
  clear x0 x1 x2 x3 x4 x5 x6 C1 A0 T0 g1 c1 G0
  obtain ⟨x0, x1, x2, x3, x4, x5, x6⟩ := A1.seven
  obtain ⟨d2, R2, E2⟩ := G1.out.1.rowAt
  have ER2 := hid E2
  have C2 := hid (markLabel_any g.b2 g.c2.a d2 g.c2.n g.c2.k (1 + 2 * g.c1.n) w1 s2 (by omega) (by omega) R2)
  clear R2 E2
  go_wp2_with fail
  refine C2.out.mono ?_
  rintro e w2 ⟨rfl, g2, c2⟩
  have ne2 : ∀ b, (if 0 < g.c2.n then some d2 else none) = some b → 0 < g.c2.n ∧ g.c2.a = some ⟨b, 0, none⟩ := fun b hb => by
    split at hb
    · rename_i h; cases hb; exact ⟨h, ER2.out h⟩
    · cases hb
  have G2 : Hid (g.own.new B w2) := hid (G1.out.2.of g2.size (fun b hb hn => g2.block b (by obtain ⟨b', m, F, e', _, _, hr⟩ := G1.out.2.2 hn; rw [hb] at e'; cases e'; exact hr.lt) (fun e => D23.out b b (ne2 b e.symm).2 (ne2 b e.symm).1 hb hn rfl)))
  have A2 := A1.grown g2 (fun e => by
    obtain ⟨h1, h2⟩ := ne2 _ e.symm
    exact G1.out.1.ne A1 (by decide) _ h2 h1 rfl)
  have T2 := hid (T1.out.trans (Touched.of_grown g2 (fun j hj => .inr (.inl (ne2 j hj)))))
  have N1 := hid (M1.out.of_block g2.size (fun hn b off e => by
    have q := ER1.out hn
    rw [e] at q
    cases q
    obtain ⟨b', off', e', hlt, _⟩ := M1.out hn
    rw [e] at e'
    cases e'
    exact g2.block d1 hlt (fun ee => HA.out d1 d1 (ER1.out hn) hn (ne2 d1 ee.symm).2 (ne2 d1 ee.symm).1 rfl)))
  have N2 := hid c2
  clear x0 x1 x2 x3 x4 x5 x6 C2 A1 T1 g2 c2 G1 M1
  obtain ⟨x0, x1, x2, x3, x4, x5, x6⟩ := A2.seven
  obtain ⟨d3, R3, E3, F3⟩ := G2.out.rowI
  have ER3 := hid E3
  have FR3 := hid F3
  have C3 := hid (markInt64S_any g.own.a d3 g.own.n g.own.k (1 + 2 * g.c1.n + 2 * g.c2.n) w2 s3 (by omega) (by omega) R3)
  clear R3 E3 F3
  go_wp2_with fail
  refine C3.out.mono ?_
  rintro e w3 ⟨rfl, g3, c3⟩
  have T3 := hid (T2.out.trans (⟨g3.os, g3.tape, g3.output, g3.size, fun k hk hn => g3.block k hk (fun e => by
    cases e
    by_cases h : 0 < g.own.n
    · exact hn (.inr (.inr ⟨h, ER3.out h⟩))
    · have := FR3.out h
      omega)⟩ : Touched g.has w2 w3))
  have Z1 := hid (N1.out.of_block g3.size (fun hn b off e => by
    have q := ER1.out hn
    rw [e] at q
    cases q
    obtain ⟨b', off', e', hlt, _⟩ := N1.out hn
    rw [e] at e'
    cases e'
    exact g3.block d1 hlt (fun ee => by
      have ee := Option.some.inj ee
      by_cases h : 0 < g.own.n
      · exact D13.out d1 d3 (ER1.out hn) hn (ER3.out h) h ee
      · have := FR3.out h
        omega)))
  have Z2 := hid (N2.out.of_block g3.size (fun hn b off e => by
    have q := ER2.out hn
    rw [e] at q
    cases q
    obtain ⟨b', off', e', hlt, _⟩ := N2.out hn
    rw [e] at e'
    cases e'
    exact g3.block d2 hlt (fun ee => by
      have ee := Option.some.inj ee
      by_cases h : 0 < g.own.n
      · exact D23.out d2 d3 (ER2.out hn) hn (ER3.out h) h ee
      · have := FR3.out h
        omega)))
  have Z3 := hid c3
  clear x0 x1 x2 x3 x4 x5 x6 C3 T2 g3 c3 N1 N2
  go_wp2
  go_ret
  exact ⟨rfl, ⟨Z1.out, Z2.out, Z3.out⟩, T3.out⟩

set_option maxRecDepth 100000 in
set_option maxHeartbeats 4000000 in
theorem heldThread_r (g : ThrV) (w : World) (hm : MarkedT g w) (hs : g.small) :
    Calls Try.prog 23 #[g.val, .int .i64 1] w fun e w' => e = .returned (.int .i64 (1 + 2 * g.c1.n + 2 * g.c2.n + g.own.n)) ∧ Below w.heap.size w w' := by
  obtain ⟨s1, s2, s3⟩ := hs
  have b0 : Below w.heap.size w (w.alloc (.cells #[.int .i64 g.id, .int .i64 g.b1, g.c1.val, .int .i64 g.b2, g.c2.val, g.own.val, .int .i64 g.made] 49)) := (Below.refl _ w).alloc (Nat.le_refl _) _
  have A0 := Blk.new w (.cells #[.int .i64 g.id, .int .i64 g.b1, g.c1.val, .int .i64 g.b2, g.c2.val, g.own.val, .int .i64 g.made] 49)
  have M0 := hid (hm.below b0)
  have C1 := hid (heldLabel_any g.b1 g.c1.a g.c1.n g.c1.k 1 _ s1 (by omega) (by omega) M0.out.1)
  unfold ThrV.val
  obtain ⟨x0, x1, x2, x3, x4, x5, x6⟩ := A0.seven
  clear hm
  unfold CatL.val IntL.val at *
  go_enter Try.func23, Try.ntmps23
  go_wp2_with fail
  refine C1.out.mono ?_
  rintro e w1 ⟨rfl, h1⟩
  have B1 := then_ b0 h1
  have A1 := A0.below h1
  have M1 := hid (M0.out.below h1)
  clear x0 x1 x2 x3 x4 x5 x6 C1 A0 M0 b0 h1
  obtain ⟨x0, x1, x2, x3, x4, x5, x6⟩ := A1.seven
  have t1 : ¬ (1 : Int) + 2 * (g.c1.n : Int) < 0 := by omega
  have C2 := hid (heldLabel_any g.b2 g.c2.a g.c2.n g.c2.k (1 + 2 * g.c1.n) w1 s2 (by omega) (by omega) M1.out.2.1)
  go_wp2_with fail
  refine C2.out.mono ?_
  rintro e w2 ⟨rfl, h2⟩
  have B2 := then_ B1 h2
  have A2 := A1.below h2
  have M2 := hid (M1.out.below h2)
  clear x0 x1 x2 x3 x4 x5 x6 C2 A1 M1 B1 h2
  obtain ⟨x0, x1, x2, x3, x4, x5, x6⟩ := A2.seven
  have t2 : ¬ (1 : Int) + 2 * (g.c1.n : Int) + 2 * (g.c2.n : Int) < 0 := by omega
  have C3 := hid (heldInt64S_any g.own.a g.own.n g.own.k (1 + 2 * g.c1.n + 2 * g.c2.n) w2 s3 (by omega) (by omega) M2.out.2.2)
  go_wp2_with fail
  refine C3.out.mono ?_
  rintro e w3 ⟨rfl, rfl⟩
  have t3 : ¬ (1 : Int) + 2 * (g.c1.n : Int) + 2 * (g.c2.n : Int) + (g.own.n : Int) < 0 := by omega
  go_wp2
  go_ret
  exact ⟨rfl, B2⟩
end Go.Proofs.Ytonpoakimpoojaa
