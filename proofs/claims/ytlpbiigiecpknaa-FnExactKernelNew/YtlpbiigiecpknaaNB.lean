/- Worlds of which one block grew, and the marks that the exact laws write into lists: categories, labels, steps, whole numbers. -/
import Derived.Test.YtlpbiigiecpknaaGA
import Derived.Test.YtlpbiigiecpknaaHF
namespace Go.Proofs.Ytlpbiigiecpknaa
open Go.RowKit Go.Deep Go.Maps

theorem grown_trans {a b c : World} {P : Nat} {row : Option Nat} (h : a.grownBy b (some P)) (k : b.grownBy c row) (hr : ∀ j, row = some j → a.heap.size ≤ j) : a.grownBy c (some P) :=
  ⟨k.os.trans h.os, k.tape.trans h.tape, k.output.trans h.output, Nat.le_trans h.size k.size, fun j hj hne => (k.block j (Nat.lt_of_lt_of_le hj h.size) (fun e => by have := hr j e.symm; omega)).trans (h.block j hj hne)⟩
theorem grown_set {a b : World} {P : Nat} (h : a.grownBy b (some P)) (i : Nat) (v : Value) : a.grownBy (b.setCell ⟨P, i, none⟩ v) (some P) :=
  ⟨h.os, h.tape, h.output, by rw [nblk_setCell]; exact h.size, fun j hj hne => (blk_setCell_other _ _ _ _ (by dsimp only; intro e; exact hne (by rw [e]))).trans (h.block j hj hne)⟩
theorem grown_refl (a : World) (P : Nat) : a.grownBy a (some P) := ⟨rfl, rfl, rfl, Nat.le_refl _, fun _ _ _ => rfl⟩
theorem Blk.grown {W W' : World} {P : Nat} {o : Obj} {row : Option Nat} (h : Blk W P o) (hg : W.grownBy W' row) (hne : some P ≠ row) : Blk W' P o := (hg.block P h.lt hne).trans h

def mk1 (k0 : Int) (i : Nat) : Int := k0 + 2 * i
def mk2 (k0 : Int) (i : Nat) : Int := k0 + 2 * i + 1

/-- a slice of categories that may be written: it begins block b -/
def RowAt (w : World) (a : Option Addr) (b n : Nat) : Prop := 0 < n → a = some ⟨b, 0, none⟩ ∧ ∃ m F, n * 2 ≤ m ∧ w.rowIs b 81 m F

theorem RowAt.of_row {w : World} {b n : Nat} {F : Nat → Value} (h : w.rowIs b 81 (n * 2) F) : RowAt w (some ⟨b, 0, none⟩) b n := fun _ => ⟨rfl, n * 2, F, Nat.le_refl _, h⟩
theorem RowAt.below {w w' : World} {a : Option Addr} {b n : Nat} (h : RowAt w a b n) (hb : Below w.heap.size w w') : RowAt w' a b n := fun h0 => by
  obtain ⟨e, m, F, hm, hr⟩ := h h0
  exact ⟨e, m, F, hm, hr.of_block (hb.block b hr.lt)⟩
theorem RowAt.grown {w w' : World} {a : Option Addr} {b n : Nat} {row : Option Nat} (h : RowAt w a b n) (hg : w.grownBy w' row) (hne : some b ≠ row) : RowAt w' a b n := fun h0 => by
  obtain ⟨e, m, F, hm, hr⟩ := h h0
  exact ⟨e, m, F, hm, hr.of_block (hg.block b hr.lt hne)⟩

set_option maxRecDepth 100000 in
set_option maxHeartbeats 1000000 in
theorem markCatS_any (a : Option Addr) (b n cap : Nat) (k0 : Int) (w : World) (hn : n ≤ 1048576) (h0 : 0 ≤ k0) (h1 : k0 ≤ 4194304) (hr : RowAt w a b n) :
    Calls Try.prog 44 #[.slice a n cap, .int .i64 k0] w fun e w' => e = .returned (.int .i64 (k0 + 2 * n)) ∧ w.grownBy w' (some b) ∧ CatsAt w' a n (mk1 k0) (mk2 k0) := by
  go_enter Try.func44, Try.ntmps44
  go_wp2
  go_loopw [1, 5] (fun kk i wr => ∃ j : Nat, j ≤ n ∧ i = .int .i64 j ∧ kk = .int .i64 (k0 + 2 * j) ∧ w.grownBy wr (some b) ∧ RowAt wr a b n ∧ (∀ i, i < j → wr.cell? ⟨b, i * 2, none⟩ = some (.int .i64 (mk1 k0 i)) ∧ wr.cell? ⟨b, i * 2 + 1, none⟩ = some (.int .i64 (mk2 k0 i)))) (fun _ i _ => n - (intOf i).toNat)
  case atStart => exact ⟨0, Nat.zero_le _, rfl, by simp, grown_refl _ _, hr, fun i hi => by omega⟩
  case round =>
    obtain ⟨j, hj, rfl, rfl, hg, hrow, hcells⟩ := hrel
    have HCL : Hid (∀ i, i < j → wr.cell? ⟨b, i * 2, none⟩ = some (.int .i64 (mk1 k0 i)) ∧ wr.cell? ⟨b, i * 2 + 1, none⟩ = some (.int .i64 (mk2 k0 i))) := hcells
    clear hcells
    by_cases hlt : j < n
    · obtain ⟨rfl, m, F, hm, hR⟩ := hrow (by omega)
      have c1 := hR.cell (i := j * 2) (by omega)
      have c2 := hR.cell (i := j * 2 + 1) (by omega)
      have f1 := hR.frozen (j * 2)
      have f2 := hR.frozen (j * 2 + 1)
      have HR : Hid (wr.rowIs b 81 m F) := hR
      clear hR hrow hr
      go_wp2
      go_roundw
      case rel =>
        have R1 := (HR.out.set (j * 2) (.int .i64 (k0 + 2 * j))).set (j * 2 + 1) (.int .i64 (k0 + 2 * j + 1))
        refine ⟨j + 1, by omega, by go_num, by go_num, grown_set (grown_set hg _ _) _ _, fun _ => ⟨rfl, m, _, hm, R1⟩, fun i hi => ⟨?_, ?_⟩⟩
        · rw [R1.cell (i := i * 2) (by omega)]
          have e1 : ¬ i * 2 = j * 2 + 1 := by omega
          rw [if_neg e1]
          by_cases e : i = j
          · subst e; rw [if_pos rfl]; rfl
          · have e2 : ¬ i * 2 = j * 2 := by omega
            rw [if_neg e2, ← HR.out.cell (i := i * 2) (by omega)]
            exact (HCL.out i (by omega)).1
        · rw [R1.cell (i := i * 2 + 1) (by omega)]
          by_cases e : i = j
          · subst e; rw [if_pos rfl]; rfl
          · have e1 : ¬ i * 2 + 1 = j * 2 + 1 := by omega
            have e2 : ¬ i * 2 + 1 = j * 2 := by omega
            rw [if_neg e1, if_neg e2, ← HR.out.cell (i := i * 2 + 1) (by omega)]
            exact (HCL.out i (by omega)).2
      case measure => simp [intOf]; omega
    · go_wp2
      go_ret
      have e : j = n := by omega
      subst e
      refine ⟨rfl, hg, fun h => ?_⟩
      obtain ⟨rfl, m, F, hm, hR⟩ := hrow h
      exact ⟨b, 0, rfl, hR.lt, fun i hi => by rw [Nat.zero_add]; exact HCL.out i hi⟩

set_option maxRecDepth 100000 in
set_option maxHeartbeats 1000000 in
theorem markLabel_any (base : Int) (a : Option Addr) (b n cap : Nat) (k0 : Int) (w : World) (hn : n ≤ 1048576) (h0 : 0 ≤ k0) (h1 : k0 ≤ 4194304) (hr : RowAt w a b n) :
    Calls Try.prog 41 #[.agg #[.int .i64 base, .slice a n cap], .int .i64 k0] w fun e w' => e = .returned (.int .i64 (k0 + 2 * n)) ∧ w.grownBy w' (if 0 < n then some b else none) ∧ CatsAt w' a n (mk1 k0) (mk2 k0) := by
  have hb0 := (Below.refl _ w).alloc (Nat.le_refl _) (.cells #[.int .i64 base, .slice a n cap] 40)
  have hr0 := hr.below hb0
  have g0 := World.grownBy_alloc w (.cells #[.int .i64 base, .slice a n cap] 40) none
  go_enter Try.func41, Try.ntmps41
  go_wp2_with fail
  by_cases hp : 0 < n
  · refine (markCatS_any _ b _ _ _ _ hn h0 h1 hr0).mono ?_
    rintro e w1 ⟨rfl, hg, hc⟩
    go_wp2
    go_ret
    exact ⟨rfl, ⟨hg.os.trans g0.os, hg.tape.trans g0.tape, hg.output.trans g0.output, Nat.le_trans g0.size hg.size, fun k hk hne => (hg.block k (Nat.lt_of_lt_of_le hk g0.size) hne).trans (g0.block k hk (by simp))⟩, hc⟩
  · refine (markCatS_any _ w.heap.size _ _ _ _ hn h0 h1 (fun h => absurd h hp)).mono ?_
    rintro e w1 ⟨rfl, hg, hc⟩
    go_wp2
    go_ret
    exact ⟨rfl, ⟨hg.os.trans g0.os, hg.tape.trans g0.tape, hg.output.trans g0.output, Nat.le_trans g0.size hg.size, fun k hk _ => (hg.block k (Nat.lt_of_lt_of_le hk g0.size) (by simp; omega)).trans (g0.block k hk (by simp))⟩, hc⟩

theorem RowAt.lt {w : World} {a : Option Addr} {b n : Nat} (h : RowAt w a b n) (h0 : 0 < n) : b < w.heap.size := by
  obtain ⟨_, m, F, _, hr⟩ := h h0
  exact hr.lt

/-- a slice of whole numbers that may be written: it begins block b -/
def RowI (w : World) (a : Option Addr) (b n : Nat) : Prop := 0 < n → a = some ⟨b, 0, none⟩ ∧ ∃ m F, n ≤ m ∧ w.rowIs b 2 m F
theorem RowI.below {w w' : World} {a : Option Addr} {b n : Nat} (h : RowI w a b n) (hb : Below w.heap.size w w') : RowI w' a b n := fun h0 => by
  obtain ⟨e, m, F, hm, hr⟩ := h h0
  exact ⟨e, m, F, hm, hr.of_block (hb.block b hr.lt)⟩
theorem RowI.grown {w w' : World} {a : Option Addr} {b n : Nat} {row : Option Nat} (h : RowI w a b n) (hg : w.grownBy w' row) (hne : some b ≠ row) : RowI w' a b n := fun h0 => by
  obtain ⟨e, m, F, hm, hr⟩ := h h0
  exact ⟨e, m, F, hm, hr.of_block (hg.block b hr.lt hne)⟩
theorem RowI.lt {w : World} {a : Option Addr} {b n : Nat} (h : RowI w a b n) (h0 : 0 < n) : b < w.heap.size := by
  obtain ⟨_, m, F, _, hr⟩ := h h0
  exact hr.lt
theorem RowI.of_own {w : World} {B k : Nat} {a : Option Addr} {l : List Int} (h : OwnI w B (.slice a l.length k) l) : ∃ b, RowI w a b l.length ∧ (0 < l.length → B ≤ b) := by
  rcases h.2 with ⟨_, h0⟩ | ⟨g, cap, cur, hv, hbg, hg, hle, _, hsz, _⟩
  · exact ⟨0, fun h => by omega, fun h => by omega⟩
  · simp only [Value.slice.injEq] at hv
    refine ⟨g, fun _ => ⟨hv.1, cap * 1, fun i => cur.getD i undef, by omega, cur, hg, hsz, fun i hi => ?_⟩, fun _ => hbg⟩
    have : i < cur.size := by omega
    simp [this]
theorem IntsAt.grown {w w' : World} {a : Option Addr} {b n : Nat} {h : Nat → Int} {row : Option Nat} (hc : IntsAt w a n h) (hr : RowI w a b n) (hg : w.grownBy w' row) (hne : 0 < n → some b ≠ row) : IntsAt w' a n h := fun h0 => by
  obtain ⟨b', off, e, hlt, hcc⟩ := hc h0
  obtain ⟨e2, m, F, hm, hrow⟩ := hr h0
  have e3 := e.symm.trans e2
  simp only [Option.some.injEq, Addr.mk.injEq] at e3
  obtain ⟨rfl, _, _⟩ := e3
  refine ⟨b', off, e, Nat.lt_of_lt_of_le hlt hg.size, fun i hi => ?_⟩
  have hb := hg.block b' hlt (hne h0)
  exact (by simp only [World.cell?]; rw [hb] : w'.cell? ⟨b', off + i, none⟩ = w.cell? ⟨b', off + i, none⟩).trans (hcc i hi)

def mkI (k0 : Int) (i : Nat) : Int := k0 + i

set_option maxRecDepth 100000 in
set_option maxHeartbeats 1000000 in
theorem markInt64S_any (a : Option Addr) (b n cap : Nat) (k0 : Int) (w : World) (hn : n ≤ 1048576) (h0 : 0 ≤ k0) (h1 : k0 ≤ 4194304) (hr : RowI w a b n) :
    Calls Try.prog 20 #[.slice a n cap, .int .i64 k0] w fun e w' => e = .returned (.int .i64 (k0 + n)) ∧ w.grownBy w' (some b) ∧ IntsAt w' a n (mkI k0) := by
  go_enter Try.func20, Try.ntmps20
  go_wp2
  go_loopw [1, 5] (fun kk i wr => ∃ j : Nat, j ≤ n ∧ i = .int .i64 j ∧ kk = .int .i64 (k0 + j) ∧ w.grownBy wr (some b) ∧ RowI wr a b n ∧ (∀ i, i < j → wr.cell? ⟨b, i, none⟩ = some (.int .i64 (mkI k0 i)))) (fun _ i _ => n - (intOf i).toNat)
  case atStart => exact ⟨0, Nat.zero_le _, rfl, by simp, grown_refl _ _, hr, fun i hi => by omega⟩
  case round =>
    obtain ⟨j, hj, rfl, rfl, hg, hrow, hcells⟩ := hrel
    have HCL : Hid (∀ i, i < j → wr.cell? ⟨b, i, none⟩ = some (.int .i64 (mkI k0 i))) := hcells
    clear hcells
    by_cases hlt : j < n
    · obtain ⟨rfl, m, F, hm, hR⟩ := hrow (by omega)
      have c1 := hR.cell (i := j) (by omega)
      have f1 := hR.frozen j
      have HR : Hid (wr.rowIs b 2 m F) := hR
      clear hR hrow hr
      go_wp2
      go_roundw
      case rel =>
        have R1 := HR.out.set j (.int .i64 (k0 + j))
        refine ⟨j + 1, by omega, by go_num, by go_num, grown_set hg _ _, fun _ => ⟨rfl, m, _, hm, R1⟩, fun i hi => ?_⟩
        rw [R1.cell (i := i) (by omega)]
        by_cases e : i = j
        · subst e; rw [if_pos rfl]; rfl
        · rw [if_neg e, ← HR.out.cell (i := i) (by omega)]
          exact HCL.out i (by omega)
      case measure => simp [intOf]; omega
    · go_wp2
      go_ret
      have e : j = n := by omega
      subst e
      refine ⟨rfl, hg, fun h => ?_⟩
      obtain ⟨rfl, m, F, hm, hR⟩ := hrow h
      exact ⟨b, 0, rfl, hR.lt, fun i hi => by rw [Nat.zero_add]; exact HCL.out i hi⟩

set_option maxHeartbeats 1000000 in
theorem heldInt64S_any (a : Option Addr) (n cap : Nat) (k0 : Int) (w : World) (hn : n ≤ 1048576) (h0 : 0 ≤ k0) (h1 : k0 ≤ 4194304) (hc : IntsAt w a n (mkI k0)) :
    Calls Try.prog 21 #[.slice a n cap, .int .i64 k0] w fun e w' => e = .returned (.int .i64 (k0 + n)) ∧ w' = w := by
  go_enter Try.func21, Try.ntmps21
  go_wp2
  go_loop [1, 5] (fun kk i => ∃ j : Nat, j ≤ n ∧ i = .int .i64 j ∧ kk = .int .i64 (k0 + j)) (fun _ i => n - (intOf i).toNat)
  case atStart => exact ⟨0, Nat.zero_le _, rfl, by simp⟩
  case round =>
    obtain ⟨j, hj, rfl, rfl⟩ := hrel
    by_cases hlt : j < n
    · obtain ⟨b, off, rfl, hbl, hcc⟩ := hc (by omega)
      have c1 := hcc j hlt
      unfold mkI at c1
      clear hcc hc
      go_wp2
      go_round
      case rel => exact ⟨j + 1, by omega, by go_num, by go_num⟩
      case measure => simp [intOf]; omega
    · clear hc
      go_wp2
      go_ret
      have e : j = n := by omega
      subst e
      exact ⟨rfl, rfl⟩

theorem grown_after {a b c : World} {row : Option Nat} (h : a.grownBy b none) (k : b.grownBy c row) : a.grownBy c row :=
  ⟨k.os.trans h.os, k.tape.trans h.tape, k.output.trans h.output, Nat.le_trans h.size k.size, fun j hj hne => (k.block j (Nat.lt_of_lt_of_le hj h.size) hne).trans (h.block j hj (by simp))⟩

/-- nothing is written but the rows b1 and b2 -/
def Marked2 (nl b1 nc b2 : Nat) (w w' : World) : Prop := ∃ w1 : World, w.grownBy w1 (if 0 < nl then some b1 else none) ∧ w1.grownBy w' (if 0 < nc then some b2 else none)

set_option maxRecDepth 100000 in
set_option maxHeartbeats 2000000 in
/-- a step's marks: nothing is written but the two rows -/
theorem markStep_any (th kind id to' cat : Int) (d : ByteArray) (bl : Int) (al : Option Addr) (nl kl : Nat) (bc : Int) (ac : Option Addr) (nc kc : Nat) (b1 b2 : Nat) (k0 : Int) (w : World)
    (hnl : nl ≤ 1048576) (hnc : nc ≤ 1048576) (h0 : 0 ≤ k0) (h1 : k0 ≤ 10) (hr1 : RowAt w al b1 nl) (hr2 : RowAt w ac b2 nc) (hne : 0 < nc → b2 ≠ b1) (hl1 : b1 < w.heap.size) :
    Calls Try.prog 19 #[.agg #[.int .i64 th, .int .i64 kind, .int .i64 id, .int .i64 to', .int .i64 cat, .string d, .int .i64 bl, .slice al nl kl, .int .i64 bc, .slice ac nc kc], .int .i64 k0] w fun e w' => ∃ k : Int, e = .returned (.int .i64 k) ∧ 0 ≤ k ∧ Marked2 nl b1 nc b2 w w' := by
  have hb0 := (Below.refl _ w).alloc (Nat.le_refl _) (.cells #[.int .i64 th, .int .i64 kind, .int .i64 id, .int .i64 to', .int .i64 cat, .string d, .int .i64 bl, .slice al nl kl, .int .i64 bc, .slice ac nc kc] 42)
  have A0 := Blk.new w (.cells #[.int .i64 th, .int .i64 kind, .int .i64 id, .int .i64 to', .int .i64 cat, .string d, .int .i64 bl, .slice al nl kl, .int .i64 bc, .slice ac nc kc] 42)
  have G0 := World.grownBy_alloc w (.cells #[.int .i64 th, .int .i64 kind, .int .i64 id, .int .i64 to', .int .i64 cat, .string d, .int .i64 bl, .slice al nl kl, .int .i64 bc, .slice ac nc kc] 42) none
  have q1 := hr1.below hb0
  have q2 := hr2.below hb0
  obtain ⟨x0, x1, x2, x3, x4, x5, x6, x7, x8, x9⟩ := A0.ten
  go_enter Try.func19, Try.ntmps19
  go_wp2_with fail
  refine (markLabel_any _ _ b1 _ _ _ _ hnl h0 (by omega) q1).mono ?_
  rintro e w1 ⟨rfl, hg1, _⟩
  have hrow : ∀ j, (if 0 < nl then some b1 else none) = some j → j = b1 := fun j e => by split at e <;> simp_all
  have A1 := A0.grown hg1 (fun e => by have := hrow _ e.symm; omega)
  have r2 : RowAt w1 ac b2 nc := fun hp => q2.grown hg1 (fun e => hne hp (hrow _ e.symm)) hp
  have G1 := grown_after G0 hg1
  clear x0 x1 x2 x3 x4 x5 x6 x7 x8 x9
  obtain ⟨x0, x1, x2, x3, x4, x5, x6, x7, x8, x9⟩ := A1.ten
  go_wp2_with fail
  refine (markLabel_any _ _ b2 _ _ _ _ hnc (by omega) (by omega) r2).mono ?_
  rintro e w2 ⟨rfl, hg2, _⟩
  go_wp2
  go_ret
  exact ⟨_, rfl, by omega, w1, G1, hg2⟩

end Go.Proofs.Ytlpbiigiecpknaa
