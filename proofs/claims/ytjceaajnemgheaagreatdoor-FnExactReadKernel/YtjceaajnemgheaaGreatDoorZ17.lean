/- Marks in threads that a call made. -/
import Derived.Test.YtjceaajnemgheaaGreatDoorZ16
import Derived.Deep.RegionHeld3
import Derived.Test.YtjceaajnemgheaaGreatDoorProg
import Derived.ProofKit
import Derived.Shelf.Abstract
import Derived.Test.YtjceaajnemgheaaGreatDoorZ12
import Derived.Test.YtjceaajnemgheaaGreatDoorZ4
namespace Go.Proofs.YtjceaajnemgheaaGreatDoor
open Go Go.RowKit Go.Deep Go.Maps

def mk1 (k0 : Int) (i : Nat) : Int := k0 + 2 * i
def mk2 (k0 : Int) (i : Nat) : Int := k0 + 2 * i + 1
def RowAt (w : World) (a : Option Addr) (b n : Nat) : Prop := 0 < n → a = some ⟨b, 0, none⟩ ∧ ∃ m F, n * 2 ≤ m ∧ w.rowIs b 58 m F

theorem RowAt.of_row {w : World} {b n : Nat} {F : Nat → Value} (h : w.rowIs b 58 (n * 2) F) : RowAt w (some ⟨b, 0, none⟩) b n := fun _ => ⟨rfl, n * 2, F, Nat.le_refl _, h⟩
theorem RowAt.below {w w' : World} {a : Option Addr} {b n : Nat} (h : RowAt w a b n) (hb : Below w.heap.size w w') : RowAt w' a b n := fun h0 => by
  obtain ⟨e, m, F, hm, hr⟩ := h h0
  exact ⟨e, m, F, hm, hr.of_block (hb.block b hr.lt)⟩
theorem RowAt.grown {w w' : World} {a : Option Addr} {b n : Nat} {row : Option Nat} (h : RowAt w a b n) (hg : w.grownBy w' row) (hne : some b ≠ row) : RowAt w' a b n := fun h0 => by
  obtain ⟨e, m, F, hm, hr⟩ := h h0
  exact ⟨e, m, F, hm, hr.of_block (hg.block b hr.lt hne)⟩

set_option maxRecDepth 100000 in
set_option maxHeartbeats 1000000 in
theorem markCatS_any (a : Option Addr) (b n cap : Nat) (k0 : Int) (w : World) (hn : n ≤ 1048576) (h0 : 0 ≤ k0) (h1 : k0 ≤ 1000000000000) (hr : RowAt w a b n) :
    Calls Tryz.prog 37 #[.slice a n cap, .int .i64 k0] w fun e w' => e = .returned (.int .i64 (k0 + 2 * n)) ∧ w.grownBy w' (some b) ∧ CatsAt w' a n (mk1 k0) (mk2 k0) := by
  go_enter Tryz.func37, Tryz.ntmps37
  go_wp2
  go_loopw [1, 5] (fun kk i wr => ∃ j : Nat, j ≤ n ∧ i = .int .i64 j ∧ kk = .int .i64 (k0 + 2 * j) ∧ w.grownBy wr (some b) ∧ RowAt wr a b n ∧ (∀ i, i < j → wr.cell? ⟨b, i * 2, none⟩ = some (.int .i64 (mk1 k0 i)) ∧ wr.cell? ⟨b, i * 2 + 1, none⟩ = some (.int .i64 (mk2 k0 i)))) (fun _ i _ => n - (intOf i).toNat)
  case atStart => exact ⟨0, Nat.zero_le _, rfl, by simp, grown_refl _ _, hr, fun i hi => by omega⟩
  case round =>
    obtain ⟨j, hj, rfl, rfl, hg, hrow, hcells⟩ := hrel
    have HCL : Hid (∀ i, i < j → wr.cell? ⟨b, i * 2, none⟩ = some (.int .i64 (mk1 k0 i)) ∧ wr.cell? ⟨b, i * 2 + 1, none⟩ = some (.int .i64 (mk2 k0 i))) := hcells
    clear hcells
    by_cases hlt : j < n
    · obtain ⟨rfl, m, F, hm, hR⟩ := hrow (by omega)
      have c1 := hR.cell (i := j * 2) (by omega)
      have c2 := hR.cell (i := j * 2 + 1) (by omega)
      have f1 := hR.frozen (j * 2)
      have f2 := hR.frozen (j * 2 + 1)
      have HR : Hid (wr.rowIs b 58 m F) := hR
      clear hR hrow hr
      go_wp2
      go_roundw
      case rel =>
        have R1 := (HR.out.set (j * 2) (.int .i64 (k0 + 2 * j))).set (j * 2 + 1) (.int .i64 (k0 + 2 * j + 1))
        refine ⟨j + 1, by omega, by go_num, by go_num, grown_set (grown_set hg _ _) _ _, fun _ => ⟨rfl, m, _, hm, R1⟩, fun i hi => ⟨?_, ?_⟩⟩
        · rw [R1.cell (i := i * 2) (by omega)]
          have e1 : ¬ i * 2 = j * 2 + 1 := by omega
          rw [if_neg e1]
          by_cases e : i = j
          · subst e; rw [if_pos rfl]; rfl
          · have e2 : ¬ i * 2 = j * 2 := by omega
            rw [if_neg e2, ← HR.out.cell (i := i * 2) (by omega)]
            exact (HCL.out i (by omega)).1
        · rw [R1.cell (i := i * 2 + 1) (by omega)]
          by_cases e : i = j
          · subst e; rw [if_pos rfl]; rfl
          · have e1 : ¬ i * 2 + 1 = j * 2 + 1 := by omega
            have e2 : ¬ i * 2 + 1 = j * 2 := by omega
            rw [if_neg e1, if_neg e2, ← HR.out.cell (i := i * 2 + 1) (by omega)]
            exact (HCL.out i (by omega)).2
      case measure => simp [intOf]; omega
    · go_wp2
      go_ret
      have e : j = n := by omega
      subst e
      refine ⟨rfl, hg, fun h => ?_⟩
      obtain ⟨rfl, m, F, hm, hR⟩ := hrow h
      exact ⟨b, 0, rfl, hR.lt, fun i hi => by rw [Nat.zero_add]; exact HCL.out i hi⟩

set_option maxHeartbeats 1000000 in
theorem heldCatS_any (a : Option Addr) (n cap : Nat) (k0 : Int) (w : World) (hn : n ≤ 1048576) (h0 : 0 ≤ k0) (h1 : k0 ≤ 1000000000000) (hc : CatsAt w a n (mk1 k0) (mk2 k0)) :
    Calls Tryz.prog 41 #[.slice a n cap, .int .i64 k0] w fun e w' => e = .returned (.int .i64 (k0 + 2 * n)) ∧ w' = w := by
  go_enter Tryz.func41, Tryz.ntmps41
  go_wp2
  go_loop [1, 5] (fun kk i => ∃ j : Nat, j ≤ n ∧ i = .int .i64 j ∧ kk = .int .i64 (k0 + 2 * j)) (fun _ i => n - (intOf i).toNat)
  case atStart => exact ⟨0, Nat.zero_le _, rfl, by simp⟩
  case round =>
    obtain ⟨j, hj, rfl, rfl⟩ := hrel
    by_cases hlt : j < n
    · obtain ⟨b, off, rfl, hbl, hcc⟩ := hc (by omega)
      obtain ⟨c1, c2⟩ := hcc j hlt
      unfold mk1 at c1
      unfold mk2 at c2
      clear hcc hc
      go_wp2
      go_round
      case rel => exact ⟨j + 1, by omega, by go_num, by go_num⟩
      case measure => simp [intOf]; omega
    · clear hc
      go_wp2
      go_ret
      have e : j = n := by omega
      subst e
      exact ⟨rfl, rfl⟩
def ThrV.has (g : ThrV) (b : Nat) : Prop := (0 < g.c1.n ∧ g.c1.a = some ⟨b, 0, none⟩) ∨ (0 < g.c2.n ∧ g.c2.a = some ⟨b, 0, none⟩) ∨ (0 < g.own.n ∧ g.own.a = some ⟨b, 0, none⟩)
structure Touched (H : Nat → Prop) (w w' : World) : Prop where
  os : w'.os = w.os
  tape : w'.tape = w.tape
  output : w'.output = w.output
  size : w.heap.size ≤ w'.heap.size
  block : ∀ k, k < w.heap.size → ¬ H k → w'.heap[k]? = w.heap[k]?
theorem Touched.trans {H : Nat → Prop} {a b c : World} (h : Touched H a b) (k : Touched H b c) : Touched H a c :=
  ⟨k.os.trans h.os, k.tape.trans h.tape, k.output.trans h.output, Nat.le_trans h.size k.size, fun j hj hn => (k.block j (Nat.lt_of_lt_of_le hj h.size) hn).trans (h.block j hj hn)⟩
theorem Touched.of_grown {H : Nat → Prop} {w w' : World} {row : Option Nat} (h : w.grownBy w' row) (hr : ∀ j, row = some j → H j) : Touched H w w' :=
  ⟨h.os, h.tape, h.output, h.size, fun k hk hn => h.block k hk (fun e => hn (hr k e.symm))⟩
theorem Touched.below {H : Nat → Prop} {w0 w w' : World} (h0 : Below w0.heap.size w0 w) (h : Touched H w w') (hH : ∀ k, H k → w0.heap.size ≤ k) : Below w0.heap.size w0 w' :=
  ⟨h.os.trans h0.os, h.tape.trans h0.tape, h.output.trans h0.output, Nat.le_trans h0.size h.size, fun k hk => (h.block k (Nat.lt_of_lt_of_le hk h0.size) (fun e => by have := hH k e; omega)).trans (h0.block k hk)⟩
theorem Touched.blk {H : Nat → Prop} {w w' : World} {P : Nat} {o : Obj} (h : Touched H w w') (hP : Blk w P o) (hn : ¬ H P) : Blk w' P o := (h.block P hP.lt hn).trans hP
theorem CatL.new.rowAt {B : Nat} {w : World} {c : CatL} (h : c.new B w) : ∃ b, RowAt w c.a b c.n ∧ (0 < c.n → c.a = some ⟨b, 0, none⟩) := by
  by_cases hn : 0 < c.n
  · obtain ⟨b, m, F, e, _, h2, h3⟩ := h.2 hn
    exact ⟨b, fun _ => ⟨e, m, F, h2, h3⟩, fun _ => e⟩
  · exact ⟨0, fun h => absurd h hn, fun h => absurd h hn⟩
theorem IntL.new.rowI {B : Nat} {w : World} {c : IntL} (h : c.new B w) : ∃ b, RowI w c.a b c.n ∧ (0 < c.n → c.a = some ⟨b, 0, none⟩) ∧ (¬ 0 < c.n → w.heap.size ≤ b) := by
  by_cases hn : 0 < c.n
  · obtain ⟨b, m, F, e, _, h2, h3⟩ := h.2 hn
    exact ⟨b, fun _ => ⟨e, m, F, h2, h3⟩, fun _ => e, fun h => absurd hn h⟩
  · exact ⟨w.heap.size, fun h => absurd h hn, fun h => absurd h hn, fun _ => Nat.le_refl _⟩
theorem CatsAt.of_block {w w' : World} {a : Option Addr} {n : Nat} {f g : Nat → Int} (h : CatsAt w a n f g) (hs : w.heap.size ≤ w'.heap.size) (hb : 0 < n → ∀ b off, a = some ⟨b, off, none⟩ → w'.heap[b]? = w.heap[b]?) : CatsAt w' a n f g := fun hn => by
  obtain ⟨b, off, e, hlt, hc⟩ := h hn
  have ce : ∀ o, w'.cell? ⟨b, o, none⟩ = w.cell? ⟨b, o, none⟩ := fun o => World.cell?_of_block (a := ⟨b, o, none⟩) (hb hn b off e)
  exact ⟨b, off, e, Nat.lt_of_lt_of_le hlt hs, fun i hi => by rw [ce, ce]; exact hc i hi⟩
def MarkedT (g : ThrV) (w : World) : Prop := CatsAt w g.c1.a g.c1.n (mk1 1) (mk2 1) ∧ CatsAt w g.c2.a g.c2.n (mk1 (1 + 2 * g.c1.n)) (mk2 (1 + 2 * g.c1.n)) ∧ IntsAt w g.own.a g.own.n (mkI (1 + 2 * g.c1.n + 2 * g.c2.n))
theorem MarkedT.below {g : ThrV} {w w' : World} (h : MarkedT g w) (hb : Below w.heap.size w w') : MarkedT g w' := ⟨h.1.below hb, h.2.1.below hb, h.2.2.below hb⟩

end Go.Proofs.YtjceaajnemgheaaGreatDoor
namespace Go.Proofs.YtjceaajnemgheaaGreatDoor
open Go

section
variable {P : Program} {ops : Array Oper} {Q : Exit → Act → World → Prop} {md : Region.Mode} {S : World → Prop} {m : Nat}

def wpAnyG (P : Program) (md : Region.Mode) (ops : Array Oper) (Q : Exit → Act → World → Prop) (S : World → Prop) (m : Nat) : Nat → Array Bool → Act → World → Prop
  | 0, listed, a, w => Region.ready md ops listed = [] ∧ Q .normal a w
  | fuel + 1, listed, a, w =>
    (Region.ready md ops listed = [] → Q .normal a w) ∧
    ∀ i ∈ Region.ready md ops listed, wpOp P ops Q i (fun a' w' => ((listed.setIfInBounds i true).getD m false = false → S w') ∧ wpAnyG P md ops Q S m fuel (listed.setIfInBounds i true) a' w') a w

theorem wpAny_of_G : ∀ (fuel : Nat) (listed : Array Bool) (a : Act) (w : World), wpAnyG P md ops Q S m fuel listed a w → wpAny P md ops Q fuel listed a w
  | 0, _, _, _, h => h
  | fuel + 1, _, _, _, h => ⟨h.1, fun i hi => wpOp_mono (fun a' w' h' => wpAny_of_G fuel _ a' w' h'.2) (h.2 i hi)⟩
def waits (md : Region.Mode) (ops : Array Oper) (m i : Nat) : Bool := match ops[m]? with
  | some o => o.after.any fun e => Region.binds md e && (e.on == i)
  | none => false

theorem wpAnyG_first {i : Nat} {oi : Oper} {v : Value} (hi : ops[i]? = some oi) (hsel : ∀ (j : Nat) (o : Oper) cs b, ops[j]? = some o → o.op ≠ .select cs b)
    (hQ : ∀ c a w, Q (.panic c) (a.put oi.dst v) w → Q (.panic c) a w) (hwait : (waits md ops m i || decide (ops.size ≤ m)) = true) (him : i ≠ m) :
    ∀ (fuel : Nat) (listed : Array Bool) (a : Act) (w : World),
      (∀ j oj, ops[j]? = some oj → j ≠ i → listed.getD j true = false → (∀ e ∈ oj.after, Region.binds md e = true → e.on ≠ i) → oi.apart ops oj = true) →
      i ∈ Region.ready md ops listed → YieldsIf P ops S oi v a → S w → listed.getD m false = false →
      wpAnyG P md ops Q S m fuel (listed.setIfInBounds i true) (a.put oi.dst v) w → wpAnyG P md ops Q S m (fuel + 1) listed a w := by
  intro fuel
  induction fuel with
  | zero =>
    intro listed a w _ hr hy hS _ H
    refine ⟨fun h => (by rw [h] at hr; cases hr), fun j hj => ?_⟩
    by_cases hji : j = i
    · subst hji; exact hy.wpOp hi hS ⟨fun _ => hS, H⟩
    · have := ready_mono hj hji
      rw [H.1] at this
      cases this
  | succ fuel ih =>
    intro listed a w hfree hr hy hS hm H
    refine ⟨fun h => (by rw [h] at hr; cases hr), fun j hj => ?_⟩
    by_cases hji : j = i
    · subst hji; exact hy.wpOp hi hS ⟨fun _ => hS, H⟩
    · have h1 := H.2 j (ready_mono hj hji)
      obtain ⟨hjun, oj, hoj, hall⟩ := mem_ready.1 hj
      have hnot : ∀ e ∈ oj.after, Region.binds md e = true → e.on ≠ i := fun e he hb heq => by
        have h1 := hall e he hb
        have h0 := (mem_ready.1 hr).1
        rw [heq] at h1
        rcases Nat.lt_or_ge i listed.size with h' | h'
        · simp [h'] at h0 h1; rw [h0] at h1; cases h1
        · simp [Array.getElem?_eq_none h'] at h1
      have hjm : j ≠ m := fun e => by
        subst e
        simp only [Bool.or_eq_true, decide_eq_true_eq] at hwait
        rcases hwait with hwait | hwait
        rotate_left
        · have := (Array.getElem?_eq_some_iff.1 hoj).1
          omega
        unfold waits at hwait
        rw [hoj] at hwait
        simp only [Array.any_eq_true] at hwait
        obtain ⟨x, hx, hb⟩ := hwait
        simp only [Bool.and_eq_true, beq_iff_eq] at hb
        exact hnot _ (Array.getElem_mem hx) hb.1 hb.2
      have h2 := wpOp_putIf hoj (hfree j oj hoj hji hjun hnot) (fun cs b => hsel i oi cs b hi) (fun cs b => hsel j oj cs b hoj) hQ hy h1
      have hfree' : ∀ k ok, ops[k]? = some ok → k ≠ i → (listed.setIfInBounds j true).getD k true = false →
          (∀ e ∈ ok.after, Region.binds md e = true → e.on ≠ i) → oi.apart ops ok = true := fun k ok hk hki hun hno => by
        refine hfree k ok hk hki ?_ hno
        by_cases hjk : j = k
        · subst hjk; exact hjun
        · rw [getD_set_ne true hjk] at hun; exact hun
      have hm2 : (listed.setIfInBounds j true).getD m false = false := by rw [getD_set_ne false hjm]; exact hm
      have hm3 : ((listed.setIfInBounds i true).setIfInBounds j true).getD m false = false := by rw [getD_set_ne false hjm, getD_set_ne false him]; exact hm
      refine wpOp_mono (fun a' w' h3 => ⟨fun _ => h3.2.1 hm3, ih (listed.setIfInBounds j true) a' w' hfree' (ready_mono hr (Ne.symm hji)) h3.1 (h3.2.1 hm3) hm2 ?_⟩) h2
      rw [Array.setIfInBounds_comm _ _ hji]
      exact h3.2.2

theorem wpAnyG_take {i : Nat} {oi : Oper} {v : Value} {fuel : Nat} {listed : Array Bool} {a : Act} {w : World} (hi : ops[i]? = some oi)
    (hs : Region.noSelect ops = true) (hf : Region.free md ops listed i = true) (hr : (Region.ready md ops listed).contains i = true)
    (hwait : (waits md ops m i || decide (ops.size ≤ m)) = true) (him : (i == m) = false) (hm : listed.getD m false = false)
    (hQ : ∀ c a w, Q (.panic c) (a.put oi.dst v) w → Q (.panic c) a w) (hy : YieldsIf P ops S oi v a) (hS : S w)
    (h : wpAnyG P md ops Q S m fuel (listed.setIfInBounds i true) (a.put oi.dst v) w) : wpAnyG P md ops Q S m (fuel + 1) listed a w :=
  wpAnyG_first hi (Region.noSelect_spec hs) hQ hwait (by simpa using him) fuel listed a w (Region.free_spec hi hf) (by simpa using hr) hy hS hm h

theorem wpAnyG_takeD {i d : Nat} {oi : Oper} (v : Value) {fuel : Nat} {listed : Array Bool} {a : Act} {w : World} (hi : ops[i]? = some oi) (hd : oi.dst = some d)
    (hs : Region.noSelect ops = true) (hf : Region.free md ops listed i = true) (hr : (Region.ready md ops listed).contains i = true)
    (hwait : (waits md ops m i || decide (ops.size ≤ m)) = true) (him : (i == m) = false) (hm : listed.getD m false = false)
    (hQ : ∀ c a w, Q (.panic c) (a.put (some d) v) w → Q (.panic c) a w) (hy : YieldsIf P ops S oi v a) (hS : S w)
    (h : wpAnyG P md ops Q S m fuel (listed.setIfInBounds i true) (a.put (some d) v) w) : wpAnyG P md ops Q S m (fuel + 1) listed a w :=
  wpAnyG_take hi hs hf hr hwait him hm (by rw [hd]; exact hQ) hy hS (by rw [hd]; exact h)
theorem wpAnyG_skip {i d : Nat} {oi : Oper} {fuel : Nat} {listed : Array Bool} {a : Act} {w : World} (hi : ops[i]? = some oi) (hd : oi.dst = some d)
    (hs : Region.noSelect ops = true) (hf : Region.free md ops listed i = true) (hr : (Region.ready md ops listed).contains i = true)
    (hwait : (waits md ops m i || decide (ops.size ≤ m)) = true) (him : (i == m) = false) (hm : listed.getD m false = false)
    (hQ : ∀ c a w, Q (.panic c) (a.put (some d) undef) w → Q (.panic c) a w) (hun : Region.wanted oi (yielded ops a.tmps) = false) (hS : S w)
    (h : wpAnyG P md ops Q S m fuel (listed.setIfInBounds i true) (a.put (some d) undef) w) : wpAnyG P md ops Q S m (fuel + 1) listed a w :=
  wpAnyG_takeD undef hi hd hs hf hr hwait him hm hQ (Or.inr ⟨hun, rfl⟩) hS h
theorem wpAnyG_one {i : Nat} {o : Oper} {fuel : Nat} {listed : Array Bool} {a : Act} {w : World} (hr : Region.ready md ops listed = [i]) (ho : ops[i]? = some o)
    (h : ∀ K' : Act → World → Prop, Shut (∀ a w, ((listed.setIfInBounds i true).getD m false = false → S w) → wpAnyG P md ops Q S m fuel (listed.setIfInBounds i true) a w → K' a w) → if Region.wanted o (yielded ops a.tmps) = true then Oper.wp P o a w K' Q else K' (a.put o.dst undef) w) :
    wpAnyG P md ops Q S m (fuel + 1) listed a w :=
  ⟨fun h0 => (by rw [hr] at h0; cases h0), fun j hj => by
    rw [hr] at hj
    obtain rfl := List.mem_singleton.1 hj
    exact wpOp_step ho (fun K' hK => h K' (fun a w hS hW => hK a w ⟨hS, hW⟩))⟩

theorem wpAnyG_done {listed : Array Bool} {a : Act} {w : World} (hr : Region.ready md ops listed = []) (h : Q .normal a w) :
    ∀ fuel, wpAnyG P md ops Q S m fuel listed a w
  | 0 => ⟨hr, h⟩
  | _ + 1 => ⟨fun _ => h, by rw [hr]; simp⟩

theorem wp_region_G {id : Nat} {a : Act} {w : World} (m : Nat) (S : World → Prop) (hm : P.follows .mixedOrders = true)
    (h : wpAnyG P .any ops Q S m ops.size (Array.replicate ops.size false) a w.drew) : (Code.region id ops true).wp P Q a w :=
  wp_region_any hm (wpAny_of_G _ _ _ _ h)
end

end Go.Proofs.YtjceaajnemgheaaGreatDoor
namespace Go.Proofs.YtjceaajnemgheaaGreatDoor
open Go

theorem step_call1g {ops : Array Oper} {o : Oper} {a : Act} {w : World} {K : Act → World → Prop} {Q : Exit → Act → World → Prop} {E : Prop} (hw : Region.wanted o (yielded ops a.tmps) = true) (f : Nat) (x : Operand) (ats : Array TypeId)
    (ho : o.op = .call { callee := .value (.func f), args := #[x], argTypes := ats }) (eg : ∀ args w, (callFunc f args).run Tryz.prog w = .ok (.enter f args) w) (v0 : Value) (hv : a.eval x = v0)
    (d : Option Nat) (hd : o.dst = d) (R : Value → World → Prop) (hc : Calls Tryz.prog f #[v0] w fun e w' => ∃ v, e = .returned v ∧ R v w') (h : ∀ v w', R v w' → K (a.put d v) w') :
    if Region.wanted o (yielded ops a.tmps) = true then Oper.wp Tryz.prog o a w K Q else E := by
  rw [if_pos hw]
  have e : (execOp a.eval o).run Tryz.prog w = .ok (.enter f #[v0]) w := by
    unfold execOp
    simp only [ho, resolve, invoke, Sem.run_bind, List.map_toArray, List.map_cons, List.map_nil, hv]
    simp [go_sem, eg, Act.eval]
  unfold Oper.wp
  rw [e, Oper.upon_enter]
  exact hc.mono fun e w' ⟨v, he, hr⟩ => by subst he; rw [hd]; exact h v w' hr
theorem step_call2g {ops : Array Oper} {o : Oper} {a : Act} {w : World} {K : Act → World → Prop} {Q : Exit → Act → World → Prop} {E : Prop} (hw : Region.wanted o (yielded ops a.tmps) = true) (f : Nat) (x y : Operand) (ats : Array TypeId)
    (ho : o.op = .call { callee := .value (.func f), args := #[x, y], argTypes := ats }) (eg : ∀ args w, (callFunc f args).run Tryz.prog w = .ok (.enter f args) w) (v0 v1 : Value) (hv : a.eval x = v0) (hv1 : a.eval y = v1)
    (d : Option Nat) (hd : o.dst = d) (R : Value → World → Prop) (hc : Calls Tryz.prog f #[v0, v1] w fun e w' => ∃ v, e = .returned v ∧ R v w') (h : ∀ v w', R v w' → K (a.put d v) w') :
    if Region.wanted o (yielded ops a.tmps) = true then Oper.wp Tryz.prog o a w K Q else E := by
  rw [if_pos hw]
  have e : (execOp a.eval o).run Tryz.prog w = .ok (.enter f #[v0, v1]) w := by
    unfold execOp
    simp only [ho, resolve, invoke, Sem.run_bind, List.map_toArray, List.map_cons, List.map_nil, hv, hv1]
    simp [go_sem, eg, Act.eval]
  unfold Oper.wp
  rw [e, Oper.upon_enter]
  exact hc.mono fun e w' ⟨v, he, hr⟩ => by subst he; rw [hd]; exact h v w' hr
theorem step_call3g {ops : Array Oper} {o : Oper} {a : Act} {w : World} {K : Act → World → Prop} {Q : Exit → Act → World → Prop} {E : Prop} (hw : Region.wanted o (yielded ops a.tmps) = true) (f : Nat) (x y z : Operand) (ats : Array TypeId)
    (ho : o.op = .call { callee := .value (.func f), args := #[x, y, z], argTypes := ats }) (eg : ∀ args w, (callFunc f args).run Tryz.prog w = .ok (.enter f args) w) (v0 v1 v2 : Value) (hv : a.eval x = v0) (hv1 : a.eval y = v1) (hv2 : a.eval z = v2)
    (d : Option Nat) (hd : o.dst = d) (R : Value → World → Prop) (hc : Calls Tryz.prog f #[v0, v1, v2] w fun e w' => ∃ v, e = .returned v ∧ R v w') (h : ∀ v w', R v w' → K (a.put d v) w') :
    if Region.wanted o (yielded ops a.tmps) = true then Oper.wp Tryz.prog o a w K Q else E := by
  rw [if_pos hw]
  have e : (execOp a.eval o).run Tryz.prog w = .ok (.enter f #[v0, v1, v2]) w := by
    unfold execOp
    simp only [ho, resolve, invoke, Sem.run_bind, List.map_toArray, List.map_cons, List.map_nil, hv, hv1, hv2]
    simp [go_sem, eg, Act.eval]
  unfold Oper.wp
  rw [e, Oper.upon_enter]
  exact hc.mono fun e w' ⟨v, he, hr⟩ => by subst he; rw [hd]; exact h v w' hr
end Go.Proofs.YtjceaajnemgheaaGreatDoor
namespace Go.Proofs.YtjceaajnemgheaaGreatDoor
open Go Go.RowKit Go.Deep Go.Maps Go.BigFrame Go.Shelf
def ObjV.new (B : Nat) (w : World) (t : ObjV) : Prop := t.c1.new B w ∧ t.items.new B w ∧ t.own.new B w ∧ t.c2.new B w
def ObjV.apart (t : ObjV) : Prop := ∀ b b', t.c1.a = some ⟨b, 0, none⟩ → 0 < t.c1.n → t.c2.a = some ⟨b', 0, none⟩ → 0 < t.c2.n → b ≠ b'
def zeroBlk : Obj := .cells #[.int .i64 0, .int .i64 0, .int .i64 0, .int .i64 0, .slice none 0 0, .string (ByteArray.mk #[]), .slice none 0 0, .slice none 0 0, .int .i64 0, .slice none 0 0] 45

end Go.Proofs.YtjceaajnemgheaaGreatDoor
