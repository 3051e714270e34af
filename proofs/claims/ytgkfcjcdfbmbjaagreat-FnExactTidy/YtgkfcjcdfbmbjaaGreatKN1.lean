/- Lists of numbers that a call made: compared, marked, held. -/
import Derived.Test.YtgkfcjcdfbmbjaaGreatZD
import Derived.Test.YtgkfcjcdfbmbjaaGreatGA
import Derived.Test.YtgkfcjcdfbmbjaaGreatZE
namespace Go.Proofs.YtgkfcjcdfbmbjaaGreat
open Go Go.RowKit Go.Deep Go.Maps

theorem grown_set {a b : World} {P : Nat} (h : a.grownBy b (some P)) (i : Nat) (v : Value) : a.grownBy (b.setCell ⟨P, i, none⟩ v) (some P) :=
  ⟨h.os, h.tape, h.output, by rw [nblk_setCell]; exact h.size, fun j hj hne => (blk_setCell_other _ _ _ _ (by dsimp only; intro e; exact hne (by rw [e]))).trans (h.block j hj hne)⟩
theorem grown_refl (a : World) (P : Nat) : a.grownBy a (some P) := ⟨rfl, rfl, rfl, Nat.le_refl _, fun _ _ _ => rfl⟩
def RowI (w : World) (a : Option Addr) (b n : Nat) : Prop := 0 < n → a = some ⟨b, 0, none⟩ ∧ ∃ m F, n ≤ m ∧ w.rowIs b 2 m F
theorem RowI.below {w w' : World} {a : Option Addr} {b n : Nat} (h : RowI w a b n) (hb : Below w.heap.size w w') : RowI w' a b n := fun h0 => by
  obtain ⟨e, m, F, hm, hr⟩ := h h0
  exact ⟨e, m, F, hm, hr.of_block (hb.block b hr.lt)⟩
theorem RowI.grown {w w' : World} {a : Option Addr} {b n : Nat} {row : Option Nat} (h : RowI w a b n) (hg : w.grownBy w' row) (hne : some b ≠ row) : RowI w' a b n := fun h0 => by
  obtain ⟨e, m, F, hm, hr⟩ := h h0
  exact ⟨e, m, F, hm, hr.of_block (hg.block b hr.lt hne)⟩
theorem RowI.lt {w : World} {a : Option Addr} {b n : Nat} (h : RowI w a b n) (h0 : 0 < n) : b < w.heap.size := by
  obtain ⟨_, m, F, _, hr⟩ := h h0
  exact hr.lt
theorem RowI.of_own {w : World} {B k : Nat} {a : Option Addr} {l : List Int} (h : OwnI w B (.slice a l.length k) l) : ∃ b, RowI w a b l.length ∧ (0 < l.length → B ≤ b) := by
  rcases h.2 with ⟨_, h0⟩ | ⟨g, cap, cur, hv, hbg, hg, hle, _, hsz, _⟩
  · exact ⟨0, fun h => by omega, fun h => by omega⟩
  · simp only [Value.slice.injEq] at hv
    refine ⟨g, fun _ => ⟨hv.1, cap * 1, fun i => cur.getD i undef, by omega, cur, hg, hsz, fun i hi => ?_⟩, fun _ => hbg⟩
    have : i < cur.size := by omega
    simp [this]
theorem IntsAt.grown {w w' : World} {a : Option Addr} {b n : Nat} {h : Nat → Int} {row : Option Nat} (hc : IntsAt w a n h) (hr : RowI w a b n) (hg : w.grownBy w' row) (hne : 0 < n → some b ≠ row) : IntsAt w' a n h := fun h0 => by
  obtain ⟨b', off, e, hlt, hcc⟩ := hc h0
  obtain ⟨e2, m, F, hm, hrow⟩ := hr h0
  have e3 := e.symm.trans e2
  simp only [Option.some.injEq, Addr.mk.injEq] at e3
  obtain ⟨rfl, _, _⟩ := e3
  refine ⟨b', off, e, Nat.lt_of_lt_of_le hlt hg.size, fun i hi => ?_⟩
  have hb := hg.block b' hlt (hne h0)
  exact (by simp only [World.cell?]; rw [hb] : w'.cell? ⟨b', off + i, none⟩ = w.cell? ⟨b', off + i, none⟩).trans (hcc i hi)

def mkI (k0 : Int) (i : Nat) : Int := k0 + i

set_option maxRecDepth 100000 in
set_option maxHeartbeats 1000000 in
theorem markInt64S_any (a : Option Addr) (b n cap : Nat) (k0 : Int) (w : World) (hn : n ≤ 1048576) (h0 : 0 ≤ k0) (h1 : k0 ≤ 1000000000000) (hr : RowI w a b n) :
    Calls Tryz.prog 16 #[.slice a n cap, .int .i64 k0] w fun e w' => e = .returned (.int .i64 (k0 + n)) ∧ w.grownBy w' (some b) ∧ IntsAt w' a n (mkI k0) := by
  go_enter Tryz.func16, Tryz.ntmps16
  go_wp2
  go_loopw [1, 5] (fun kk i wr => ∃ j : Nat, j ≤ n ∧ i = .int .i64 j ∧ kk = .int .i64 (k0 + j) ∧ w.grownBy wr (some b) ∧ RowI wr a b n ∧ (∀ i, i < j → wr.cell? ⟨b, i, none⟩ = some (.int .i64 (mkI k0 i)))) (fun _ i _ => n - (intOf i).toNat)
  case atStart => exact ⟨0, Nat.zero_le _, rfl, by simp, grown_refl _ _, hr, fun i hi => by omega⟩
  case round =>
    obtain ⟨j, hj, rfl, rfl, hg, hrow, hcells⟩ := hrel
    have HCL : Hid (∀ i, i < j → wr.cell? ⟨b, i, none⟩ = some (.int .i64 (mkI k0 i))) := hcells
    clear hcells
    by_cases hlt : j < n
    · obtain ⟨rfl, m, F, hm, hR⟩ := hrow (by omega)
      have c1 := hR.cell (i := j) (by omega)
      have f1 := hR.frozen j
      have HR : Hid (wr.rowIs b 2 m F) := hR
      clear hR hrow hr
      go_wp2
      go_roundw
      case rel =>
        have R1 := HR.out.set j (.int .i64 (k0 + j))
        refine ⟨j + 1, by omega, by go_num, by go_num, grown_set hg _ _, fun _ => ⟨rfl, m, _, hm, R1⟩, fun i hi => ?_⟩
        rw [R1.cell (i := i) (by omega)]
        by_cases e : i = j
        · subst e; rw [if_pos rfl]; rfl
        · rw [if_neg e, ← HR.out.cell (i := i) (by omega)]
          exact HCL.out i (by omega)
      case measure => simp [intOf]; omega
    · go_wp2
      go_ret
      have e : j = n := by omega
      subst e
      refine ⟨rfl, hg, fun h => ?_⟩
      obtain ⟨rfl, m, F, hm, hR⟩ := hrow h
      exact ⟨b, 0, rfl, hR.lt, fun i hi => by rw [Nat.zero_add]; exact HCL.out i hi⟩

set_option maxHeartbeats 1000000 in
theorem heldInt64S_any (a : Option Addr) (n cap : Nat) (k0 : Int) (w : World) (hn : n ≤ 1048576) (h0 : 0 ≤ k0) (h1 : k0 ≤ 1000000000000) (hc : IntsAt w a n (mkI k0)) :
    Calls Tryz.prog 17 #[.slice a n cap, .int .i64 k0] w fun e w' => e = .returned (.int .i64 (k0 + n)) ∧ w' = w := by
  go_enter Tryz.func17, Tryz.ntmps17
  go_wp2
  go_loop [1, 5] (fun kk i => ∃ j : Nat, j ≤ n ∧ i = .int .i64 j ∧ kk = .int .i64 (k0 + j)) (fun _ i => n - (intOf i).toNat)
  case atStart => exact ⟨0, Nat.zero_le _, rfl, by simp⟩
  case round =>
    obtain ⟨j, hj, rfl, rfl⟩ := hrel
    by_cases hlt : j < n
    · obtain ⟨b, off, rfl, hbl, hcc⟩ := hc (by omega)
      have c1 := hcc j hlt
      unfold mkI at c1
      clear hcc hc
      go_wp2
      go_round
      case rel => exact ⟨j + 1, by omega, by go_num, by go_num⟩
      case measure => simp [intOf]; omega
    · clear hc
      go_wp2
      go_ret
      have e : j = n := by omega
      subst e
      exact ⟨rfl, rfl⟩


theorem OwnI.of_block {w w' : World} {B : Nat} {v : Value} {l : List Int} (h : OwnI w B v l) (hb : ∀ g, v.ownBlock = some g → w'.heap[g]? = w.heap[g]?) : OwnI w' B v l := by
  refine ⟨h.1, ?_⟩
  rcases h.2 with hn | ⟨g, cap, cur, rfl, h1, h2, rest⟩
  · exact .inl hn
  · exact .inr ⟨g, cap, cur, rfl, h1, (hb g rfl).trans h2, rest⟩
theorem OwnI.below {w w' : World} {B : Nat} {v : Value} {l : List Int} (h : OwnI w B v l) (hb : Below w.heap.size w w') : OwnI w' B v l := h.of_block fun g hg => hb.block g (World.ownsRow.lt h g hg).2
theorem OwnI.mk {lo hi : Nat} {w w' : World} {B : Nat} {v : Value} {l : List Int} (h : OwnI w B v l) (hm : Mk lo hi w w') (hb : ∀ g, v.ownBlock = some g → g < lo ∨ hi ≤ g) : OwnI w' B v l := h.of_block fun g hg => hm.block g (World.ownsRow.lt h g hg).2 (hb g hg)
theorem Mk.below {lo hi : Nat} {w w0 w' : World} (h0 : Below w0.heap.size w0 w) (h : Mk lo hi w w') (hB : w0.heap.size ≤ lo) : Below w0.heap.size w0 w' :=
  ⟨h.os.trans h0.os, h.tape.trans h0.tape, h.output.trans h0.output, Nat.le_trans h0.size h.size, fun k hk => (h.block k (Nat.lt_of_lt_of_le hk h0.size) (.inl (by omega))).trans (h0.block k hk)⟩
theorem eqNum (B B' : Nat) (v v' : Value) (l : List Int) (w : World) (h : OwnI w B v l) (h' : OwnI w B' v' l) (hl : l.length ≤ 100000) :
    Calls Tryz.prog 11 #[v, v'] w fun e w' => e = .returned (.bool true) ∧ Below w.heap.size w w' := by
  obtain ⟨a, c, rfl⟩ := ownsRow_shape h
  obtain ⟨a', c', rfl⟩ := ownsRow_shape h'
  exact eqInt64S_true a a' l.length c c' (nthI l) w (by unfold maxLen; omega) (OwnI.lies h).ints (OwnI.lies h').ints
end Go.Proofs.YtgkfcjcdfbmbjaaGreat
