/- Marks in lists of files and ops. -/
import Derived.Test.YtcdhhmedcplblaaMA
import Derived.Laws.AppendOwn
namespace Go.Proofs.Ytcdhhmedcplblaa
open Go Go.RowKit Go.Deep Go.Maps

def mkT (n : Nat) : ByteArray := ⟨(109 :: digs n).toArray⟩
theorem mkT_any (n : Nat) (w : World) (h1 : 0 < n) (hn : n ≤ 100000000000000000) : Calls Try.prog 59 #[.int .i64 n] w fun e w' => e = .returned (.string (mkT n)) ∧ Below w.heap.size w w' := markText_any n w h1 hn
theorem grown_of_below' {w w' : World} (r : Option Nat) (h : Below w.heap.size w w') : w.grownBy w' r := ⟨h.os, h.tape, h.output, h.size, fun k hk _ => h.block k hk⟩
theorem grownBy_trans {a b c : World} {r : Option Nat} (h : a.grownBy b r) (k : b.grownBy c r) : a.grownBy c r :=
  ⟨k.os.trans h.os, k.tape.trans h.tape, k.output.trans h.output, Nat.le_trans h.size k.size, fun i hi hne => (k.block i (Nat.lt_of_lt_of_le hi h.size) hne).trans (h.block i hi hne)⟩
theorem grownBy_set {a b : World} {x i : Nat} (h : a.grownBy b (some x)) (v : Value) : a.grownBy (b.setCell ⟨x, i, none⟩ v) (some x) :=
  ⟨h.os, h.tape, h.output, by rw [nblk_setCell]; exact h.size, fun k hk hn => (blk_setCell_other _ _ _ _ (by dsimp only; exact fun e => hn (by rw [e]))).trans (h.block k hk hn)⟩

def markFile (k0 i : Nat) : FileV := ⟨mkT (k0 + 2 * i), mkT (k0 + 2 * i + 1)⟩
/-- a slice that begins a row -/
def RowFile (w : World) (v : Value) (n : Nat) : Prop := (n = 0 ∧ ∃ c, v = .slice none 0 c) ∨ ∃ b cap N F, v = .slice (some ⟨b, 0, none⟩) n cap ∧ w.rowIs b 72 N F ∧ n * 2 ≤ N
def AtFile (w : World) (v : Value) (n : Nat) (f : Nat → FileV) : Prop := ∃ a c, v = .slice a n c ∧ FilesAt w a n f
theorem AtFile.of_row {w : World} {b n cap N k0 : Nat} {F : Nat → Value} (h : w.rowIs b 72 N F) (hn : n * 2 ≤ N) (hF : ∀ i, i < n → F (i * 2) = .string (mkT (k0 + 2 * i)) ∧ F (i * 2 + 1) = .string (mkT (k0 + 2 * i + 1))) : AtFile w (.slice (some ⟨b, 0, none⟩) n cap) n (markFile k0) :=
  ⟨_, _, rfl, fun _ => ⟨b, 0, rfl, h.lt, fun i hi => by
    obtain ⟨h0, h1⟩ := hF i hi
    have g0 := h.cell (i := i * 2) (by omega)
    rw [h0] at g0
    have g1 := h.cell (i := i * 2 + 1) (by omega)
    rw [h1] at g1
    simp only [Nat.zero_add]
    exact ⟨g0, g1⟩⟩⟩
theorem RowFile.kept {w w' : World} {v : Value} {n : Nat} {r : Option Nat} (h : RowFile w v n) (hg : w.grownBy w' r) (hne : v.ownBlock = none ∨ v.ownBlock ≠ r) : RowFile w' v n := by
  rcases h with h | ⟨b, cap, N, F, rfl, h, hn⟩
  · exact .inl h
  · refine .inr ⟨b, cap, N, F, rfl, h.of_block (hg.block b h.lt (fun e => ?_)), hn⟩
    rcases hne with hne | hne
    · cases hne
    · exact hne e
theorem AtFile.kept {w w' : World} {v : Value} {n : Nat} {f : Nat → FileV} {r : Option Nat} (h : AtFile w v n f) (hg : w.grownBy w' r) (hne : v.ownBlock = none ∨ v.ownBlock ≠ r) : AtFile w' v n f := by
  obtain ⟨a, c, rfl, h⟩ := h
  refine ⟨a, c, rfl, fun hn => ?_⟩
  obtain ⟨b, off, rfl, hlt, hc⟩ := h hn
  have e : w'.heap[b]? = w.heap[b]? := hg.block b hlt (fun e => by
    rcases hne with hne | hne
    · cases hne
    · exact hne e)
  have hcell : ∀ o, w'.cell? ⟨b, o, none⟩ = w.cell? ⟨b, o, none⟩ := fun o => World.cell?_of_block (a := ⟨b, o, none⟩) e
  exact ⟨b, off, rfl, Nat.lt_of_lt_of_le hlt hg.size, fun i hi => by simp only [hcell]; exact hc i hi⟩

set_option maxRecDepth 100000 in
set_option maxHeartbeats 2000000 in
theorem markFile_any (v : Value) (n k0 : Nat) (w : World) (hr : RowFile w v n) (h0 : 1 ≤ k0) (h1 : k0 ≤ 1000000000000000) (hn : n ≤ 4194304) :
    Calls Try.prog 35 #[v, .int .i64 k0] w fun e w' => e = .returned (.int .i64 (k0 + 2 * n : Nat)) ∧ RowFile w' v n ∧ AtFile w' v n (markFile k0) ∧ w.grownBy w' v.ownBlock := by
  rcases hr with ⟨rfl, c, rfl⟩ | ⟨b, cap, N, F0, rfl, hR0, hN⟩
  · go_enter Try.func35, Try.ntmps35
    go_wp2
    go_loopw [1, 5] (fun kk i wr => kk = .int .i64 k0 ∧ i = .int .i64 0 ∧ wr = w) (fun _ _ _ => 0)
    case atStart => exact ⟨rfl, rfl, rfl⟩
    case round =>
      obtain ⟨rfl, rfl, rfl⟩ := hrel
      go_wp2
      go_ret
      exact ⟨rfl, .inl ⟨rfl, c, rfl⟩, ⟨none, c, rfl, fun h => absurd h (Nat.lt_irrefl 0)⟩, grown_of_below' _ (Below.refl _ _)⟩
  · have HR0 := hid hR0
    clear hR0
    go_enter Try.func35, Try.ntmps35
    go_wp2
    go_loopw [1, 5] (fun kk i wr => ∃ (j : Nat) (F : Nat → Value), j ≤ n ∧ i = .int .i64 j ∧ kk = .int .i64 (k0 + 2 * j : Nat) ∧ wr.rowIs b 72 N F ∧ (∀ i, i < j → F (i * 2) = .string (mkT (k0 + 2 * i)) ∧ F (i * 2 + 1) = .string (mkT (k0 + 2 * i + 1))) ∧ w.grownBy wr (some b)) (fun _ i _ => n - (intOf i).toNat)
    case atStart => exact ⟨0, F0, Nat.zero_le _, rfl, rfl, HR0.out, fun i hi => absurd hi (Nat.not_lt_zero i), grown_of_below' _ (Below.refl _ _)⟩
    case round =>
      clear HR0
      obtain ⟨j, F, hj, rfl, rfl, hR, hF, hg⟩ := hrel
      have HR := hid hR
      have HF := hid hF
      have HG := hid hg
      clear hR hF hg
      by_cases hlt : j < n
      · have i1 : (j : Int) < (n : Int) := by omega
        have i0 : (0 : Int) ≤ (j : Int) := by omega
        have f0 := HR.out.frozen (j * 2)
        have c0 := HR.out.cell (i := j * 2) (by omega)
        have C0 := hid (mkT_any (k0 + 2 * j) wr (by omega) (by omega))
        go_wp2_with fail
        refine C0.out.mono ?_
        rintro e v0 ⟨rfl, hb0⟩
        have P0 := hid (rowUp HR.out hb0)
        have G0 := hid (grownBy_trans HG.out (grown_of_below' _ hb0))
        have f0' := P0.out.frozen (j * 2)
        have c0' := P0.out.cell (i := j * 2) (by omega)
        have S0 := hid (P0.out.set (j * 2) (.string (mkT (k0 + 2 * j))))
        have T0 := hid (grownBy_set (i := j * 2) G0.out (.string (mkT (k0 + 2 * j))))
        clear hb0 C0
        have f1 := S0.out.frozen (j * 2 + 1)
        have c1 := S0.out.cell (i := j * 2 + 1) (by omega)
        have C1 := hid (mkT_any (k0 + 2 * j + 1) (v0.setCell ⟨b, j * 2, none⟩ (.string (mkT (k0 + 2 * j)))) (by omega) (by omega))
        go_wp2_with fail
        refine C1.out.mono ?_
        rintro e v1 ⟨rfl, hb1⟩
        have P1 := hid (rowUp S0.out hb1)
        have G1 := hid (grownBy_trans T0.out (grown_of_below' _ hb1))
        have f1' := P1.out.frozen (j * 2 + 1)
        have c1' := P1.out.cell (i := j * 2 + 1) (by omega)
        have S1 := hid (P1.out.set (j * 2 + 1) (.string (mkT (k0 + 2 * j + 1))))
        have T1 := hid (grownBy_set (i := j * 2 + 1) G1.out (.string (mkT (k0 + 2 * j + 1))))
        clear hb1 C1
        go_wp2
        refine ⟨⟨j + 1, _, by omega, by go_num, by go_num, S1.out, fun i hi => ?_, T1.out⟩, by simp [intOf]; omega⟩
        by_cases e : i = j
        · subst e
          exact ⟨(by rw [if_neg (by omega), if_pos rfl]), (by rw [if_pos rfl])⟩
        · obtain ⟨g0, g1⟩ := HF.out i (by omega)
          exact ⟨(by rw [if_neg (by omega), if_neg (by omega)]; exact g0), (by rw [if_neg (by omega), if_neg (by omega)]; exact g1)⟩
      · obtain rfl : j = n := by omega
        go_wp2
        go_ret
        exact ⟨rfl, .inr ⟨b, cap, N, F, rfl, HR.out, hN⟩, AtFile.of_row HR.out hN HF.out, HG.out⟩

def markOp (k0 i : Nat) : OpV := ⟨((k0 + 4 * i) : Nat), mkT (k0 + 4 * i + 1), mkT (k0 + 4 * i + 2), mkT (k0 + 4 * i + 3)⟩
/-- a slice that begins a row -/
def RowOp (w : World) (v : Value) (n : Nat) : Prop := (n = 0 ∧ ∃ c, v = .slice none 0 c) ∨ ∃ b cap N F, v = .slice (some ⟨b, 0, none⟩) n cap ∧ w.rowIs b 37 N F ∧ n * 4 ≤ N
def AtOp (w : World) (v : Value) (n : Nat) (f : Nat → OpV) : Prop := ∃ a c, v = .slice a n c ∧ DOpsAt w a n f
theorem AtOp.of_row {w : World} {b n cap N k0 : Nat} {F : Nat → Value} (h : w.rowIs b 37 N F) (hn : n * 4 ≤ N) (hF : ∀ i, i < n → F (i * 4) = .int .i64 ((k0 + 4 * i) : Nat) ∧ F (i * 4 + 1) = .string (mkT (k0 + 4 * i + 1)) ∧ F (i * 4 + 2) = .string (mkT (k0 + 4 * i + 2)) ∧ F (i * 4 + 3) = .string (mkT (k0 + 4 * i + 3))) : AtOp w (.slice (some ⟨b, 0, none⟩) n cap) n (markOp k0) :=
  ⟨_, _, rfl, fun _ => ⟨b, 0, rfl, h.lt, fun i hi => by
    obtain ⟨h0, h1, h2, h3⟩ := hF i hi
    have g0 := h.cell (i := i * 4) (by omega)
    rw [h0] at g0
    have g1 := h.cell (i := i * 4 + 1) (by omega)
    rw [h1] at g1
    have g2 := h.cell (i := i * 4 + 2) (by omega)
    rw [h2] at g2
    have g3 := h.cell (i := i * 4 + 3) (by omega)
    rw [h3] at g3
    simp only [Nat.zero_add]
    exact ⟨g0, g1, g2, g3⟩⟩⟩
theorem RowOp.kept {w w' : World} {v : Value} {n : Nat} {r : Option Nat} (h : RowOp w v n) (hg : w.grownBy w' r) (hne : v.ownBlock = none ∨ v.ownBlock ≠ r) : RowOp w' v n := by
  rcases h with h | ⟨b, cap, N, F, rfl, h, hn⟩
  · exact .inl h
  · refine .inr ⟨b, cap, N, F, rfl, h.of_block (hg.block b h.lt (fun e => ?_)), hn⟩
    rcases hne with hne | hne
    · cases hne
    · exact hne e
theorem AtOp.kept {w w' : World} {v : Value} {n : Nat} {f : Nat → OpV} {r : Option Nat} (h : AtOp w v n f) (hg : w.grownBy w' r) (hne : v.ownBlock = none ∨ v.ownBlock ≠ r) : AtOp w' v n f := by
  obtain ⟨a, c, rfl, h⟩ := h
  refine ⟨a, c, rfl, fun hn => ?_⟩
  obtain ⟨b, off, rfl, hlt, hc⟩ := h hn
  have e : w'.heap[b]? = w.heap[b]? := hg.block b hlt (fun e => by
    rcases hne with hne | hne
    · cases hne
    · exact hne e)
  have hcell : ∀ o, w'.cell? ⟨b, o, none⟩ = w.cell? ⟨b, o, none⟩ := fun o => World.cell?_of_block (a := ⟨b, o, none⟩) e
  exact ⟨b, off, rfl, Nat.lt_of_lt_of_le hlt hg.size, fun i hi => by simp only [hcell]; exact hc i hi⟩

set_option maxRecDepth 100000 in
set_option maxHeartbeats 2000000 in
theorem markOp_any (v : Value) (n k0 : Nat) (w : World) (hr : RowOp w v n) (h0 : 1 ≤ k0) (h1 : k0 ≤ 1000000000000000) (hn : n ≤ 4194304) :
    Calls Try.prog 36 #[v, .int .i64 k0] w fun e w' => e = .returned (.int .i64 (k0 + 4 * n : Nat)) ∧ RowOp w' v n ∧ AtOp w' v n (markOp k0) ∧ w.grownBy w' v.ownBlock := by
  rcases hr with ⟨rfl, c, rfl⟩ | ⟨b, cap, N, F0, rfl, hR0, hN⟩
  · go_enter Try.func36, Try.ntmps36
    go_wp2
    go_loopw [1, 5] (fun kk i wr => kk = .int .i64 k0 ∧ i = .int .i64 0 ∧ wr = w) (fun _ _ _ => 0)
    case atStart => exact ⟨rfl, rfl, rfl⟩
    case round =>
      obtain ⟨rfl, rfl, rfl⟩ := hrel
      go_wp2
      go_ret
      exact ⟨rfl, .inl ⟨rfl, c, rfl⟩, ⟨none, c, rfl, fun h => absurd h (Nat.lt_irrefl 0)⟩, grown_of_below' _ (Below.refl _ _)⟩
  · have HR0 := hid hR0
    clear hR0
    go_enter Try.func36, Try.ntmps36
    go_wp2
    go_loopw [1, 5] (fun kk i wr => ∃ (j : Nat) (F : Nat → Value), j ≤ n ∧ i = .int .i64 j ∧ kk = .int .i64 (k0 + 4 * j : Nat) ∧ wr.rowIs b 37 N F ∧ (∀ i, i < j → F (i * 4) = .int .i64 ((k0 + 4 * i) : Nat) ∧ F (i * 4 + 1) = .string (mkT (k0 + 4 * i + 1)) ∧ F (i * 4 + 2) = .string (mkT (k0 + 4 * i + 2)) ∧ F (i * 4 + 3) = .string (mkT (k0 + 4 * i + 3))) ∧ w.grownBy wr (some b)) (fun _ i _ => n - (intOf i).toNat)
    case atStart => exact ⟨0, F0, Nat.zero_le _, rfl, rfl, HR0.out, fun i hi => absurd hi (Nat.not_lt_zero i), grown_of_below' _ (Below.refl _ _)⟩
    case round =>
      clear HR0
      obtain ⟨j, F, hj, rfl, rfl, hR, hF, hg⟩ := hrel
      have HR := hid hR
      have HF := hid hF
      have HG := hid hg
      clear hR hF hg
      by_cases hlt : j < n
      · have i1 : (j : Int) < (n : Int) := by omega
        have i0 : (0 : Int) ≤ (j : Int) := by omega
        have f0 := HR.out.frozen (j * 4)
        have c0 := HR.out.cell (i := j * 4) (by omega)
        have S0 := hid (HR.out.set (j * 4) (.int .i64 ((k0 + 4 * j : Nat) : Int)))
        have T0 := hid (grownBy_set (i := j * 4) HG.out (.int .i64 ((k0 + 4 * j : Nat) : Int)))
        have f1 := S0.out.frozen (j * 4 + 1)
        have c1 := S0.out.cell (i := j * 4 + 1) (by omega)
        have C1 := hid (mkT_any (k0 + 4 * j + 1) (wr.setCell ⟨b, j * 4, none⟩ (.int .i64 ((k0 + 4 * j : Nat) : Int))) (by omega) (by omega))
        go_wp2_with fail
        refine C1.out.mono ?_
        rintro e v1 ⟨rfl, hb1⟩
        have P1 := hid (rowUp S0.out hb1)
        have G1 := hid (grownBy_trans T0.out (grown_of_below' _ hb1))
        have f1' := P1.out.frozen (j * 4 + 1)
        have c1' := P1.out.cell (i := j * 4 + 1) (by omega)
        have S1 := hid (P1.out.set (j * 4 + 1) (.string (mkT (k0 + 4 * j + 1))))
        have T1 := hid (grownBy_set (i := j * 4 + 1) G1.out (.string (mkT (k0 + 4 * j + 1))))
        clear hb1 C1
        have f2 := S1.out.frozen (j * 4 + 2)
        have c2 := S1.out.cell (i := j * 4 + 2) (by omega)
        have C2 := hid (mkT_any (k0 + 4 * j + 2) (v1.setCell ⟨b, j * 4 + 1, none⟩ (.string (mkT (k0 + 4 * j + 1)))) (by omega) (by omega))
        go_wp2_with fail
        refine C2.out.mono ?_
        rintro e v2 ⟨rfl, hb2⟩
        have P2 := hid (rowUp S1.out hb2)
        have G2 := hid (grownBy_trans T1.out (grown_of_below' _ hb2))
        have f2' := P2.out.frozen (j * 4 + 2)
        have c2' := P2.out.cell (i := j * 4 + 2) (by omega)
        have S2 := hid (P2.out.set (j * 4 + 2) (.string (mkT (k0 + 4 * j + 2))))
        have T2 := hid (grownBy_set (i := j * 4 + 2) G2.out (.string (mkT (k0 + 4 * j + 2))))
        clear hb2 C2
        have f3 := S2.out.frozen (j * 4 + 3)
        have c3 := S2.out.cell (i := j * 4 + 3) (by omega)
        have C3 := hid (mkT_any (k0 + 4 * j + 3) (v2.setCell ⟨b, j * 4 + 2, none⟩ (.string (mkT (k0 + 4 * j + 2)))) (by omega) (by omega))
        go_wp2_with fail
        refine C3.out.mono ?_
        rintro e v3 ⟨rfl, hb3⟩
        have P3 := hid (rowUp S2.out hb3)
        have G3 := hid (grownBy_trans T2.out (grown_of_below' _ hb3))
        have f3' := P3.out.frozen (j * 4 + 3)
        have c3' := P3.out.cell (i := j * 4 + 3) (by omega)
        have S3 := hid (P3.out.set (j * 4 + 3) (.string (mkT (k0 + 4 * j + 3))))
        have T3 := hid (grownBy_set (i := j * 4 + 3) G3.out (.string (mkT (k0 + 4 * j + 3))))
        clear hb3 C3
        go_wp2
        refine ⟨⟨j + 1, _, by omega, by go_num, by go_num, S3.out, fun i hi => ?_, T3.out⟩, by simp [intOf]; omega⟩
        by_cases e : i = j
        · subst e
          exact ⟨(by rw [if_neg (by omega), if_neg (by omega), if_neg (by omega), if_pos rfl]), (by rw [if_neg (by omega), if_neg (by omega), if_pos rfl]), (by rw [if_neg (by omega), if_pos rfl]), (by rw [if_pos rfl])⟩
        · obtain ⟨g0, g1, g2, g3⟩ := HF.out i (by omega)
          exact ⟨(by rw [if_neg (by omega), if_neg (by omega), if_neg (by omega), if_neg (by omega)]; exact g0), (by rw [if_neg (by omega), if_neg (by omega), if_neg (by omega), if_neg (by omega)]; exact g1), (by rw [if_neg (by omega), if_neg (by omega), if_neg (by omega), if_neg (by omega)]; exact g2), (by rw [if_neg (by omega), if_neg (by omega), if_neg (by omega), if_neg (by omega)]; exact g3)⟩
      · obtain rfl : j = n := by omega
        go_wp2
        go_ret
        exact ⟨rfl, .inr ⟨b, cap, N, F, rfl, HR.out, hN⟩, AtOp.of_row HR.out hN HF.out, HG.out⟩

set_option maxRecDepth 100000 in
set_option maxHeartbeats 4000000 in
theorem heldFile_any (v : Value) (n k0 : Nat) (w : World) (hr : AtFile w v n (markFile k0)) (h0 : 1 ≤ k0) (h1 : k0 ≤ 1000000000000000) (hn : n ≤ 4194304) :
    Calls Try.prog 37 #[v, .int .i64 k0] w fun e w' => e = .returned (.int .i64 (k0 + 2 * n : Nat)) ∧ Below w.heap.size w w' := by
  obtain ⟨a, cap, rfl, hr⟩ := hr
  have HR := hid hr
  clear hr
  go_enter Try.func37, Try.ntmps37
  go_wp2
  go_loopw [1, 5] (fun kk i wr => ∃ j : Nat, j ≤ n ∧ i = .int .i64 j ∧ kk = .int .i64 (k0 + 2 * j : Nat) ∧ Below w.heap.size w wr) (fun _ i _ => n - (intOf i).toNat)
  case atStart => exact ⟨0, Nat.zero_le _, rfl, rfl, Below.refl _ _⟩
  case round =>
    obtain ⟨j, hj, rfl, rfl, hB⟩ := hrel
    by_cases hlt : j < n
    · obtain ⟨b, off, rfl, hlt2, hcc⟩ := HR.out (by omega)
      have i1 : (j : Int) < (n : Int) := by omega
      have i0 : (0 : Int) ≤ (j : Int) := by omega
      have HC := hid (hcc j hlt)
      clear hcc
      have g0 : wr.cell? ⟨b, off + j * 2, none⟩ = some (.string (mkT (k0 + 2 * j))) := (hB.cell (p := ⟨b, _, none⟩) hlt2).trans HC.out.1
      have C0 : Hid (∀ W, Calls Try.prog 59 #[.int .i64 ((k0 + 2 * j : Nat) : Int)] W fun e w' => e = .returned (.string (mkT (k0 + 2 * j))) ∧ Below W.heap.size W w') := hid (fun W => mkT_any _ W (by omega) (by omega))
      have e0 : ((mkT (k0 + 2 * j)).toList == (mkT (k0 + 2 * j)).toList) = true := beq_self_eq_true _
      have bl0 : b < wr.heap.size := Nat.lt_of_lt_of_le hlt2 hB.size
      go_wp2_with fail
      go_region_held3 (fun w' => w'.cell? ⟨b, off + j * 2, none⟩ = some (.string (mkT (k0 + 2 * j)))) (go_keep)
        (first | (go_at_call 59; refine (C0.out _).mono ?_; rintro e v0 ⟨rfl, hb0⟩; have r0 := (hb0.cell (p := ⟨b, off + j * 2, none⟩) bl0).trans g0))
      have B0 : Below w.heap.size w v0 := hB.drew.trans (hb0.mono hB.size)
      clear g0 r0 C0 hb0
      have g1 : v0.cell? ⟨b, off + j * 2 + 1, none⟩ = some (.string (mkT (k0 + 2 * j + 1))) := (B0.cell (p := ⟨b, _, none⟩) hlt2).trans HC.out.2
      have C1 : Hid (∀ W, Calls Try.prog 59 #[.int .i64 ((k0 + 2 * j + 1 : Nat) : Int)] W fun e w' => e = .returned (.string (mkT (k0 + 2 * j + 1))) ∧ Below W.heap.size W w') := hid (fun W => mkT_any _ W (by omega) (by omega))
      have e1 : ((mkT (k0 + 2 * j + 1)).toList == (mkT (k0 + 2 * j + 1)).toList) = true := beq_self_eq_true _
      have bl1 : b < v0.heap.size := Nat.lt_of_lt_of_le hlt2 B0.size
      go_wp2_with fail
      go_region_held3 (fun w' => w'.cell? ⟨b, off + j * 2 + 1, none⟩ = some (.string (mkT (k0 + 2 * j + 1)))) (go_keep)
        (first | (go_at_call 59; refine (C1.out _).mono ?_; rintro e v1 ⟨rfl, hb1⟩; have r1 := (hb1.cell (p := ⟨b, off + j * 2 + 1, none⟩) bl1).trans g1))
      have B1 : Below w.heap.size w v1 := B0.drew.trans (hb1.mono B0.size)
      clear g1 r1 C1 hb1
      go_wp2
      exact ⟨⟨j + 1, by omega, by go_num, by go_num, B1⟩, by simp [intOf]; omega⟩
    · obtain rfl : j = n := by omega
      go_wp2
      go_ret
      exact ⟨rfl, hB⟩

set_option maxRecDepth 100000 in
set_option maxHeartbeats 4000000 in
theorem heldOp_any (v : Value) (n k0 : Nat) (w : World) (hr : AtOp w v n (markOp k0)) (h0 : 1 ≤ k0) (h1 : k0 ≤ 1000000000000000) (hn : n ≤ 4194304) :
    Calls Try.prog 38 #[v, .int .i64 k0] w fun e w' => e = .returned (.int .i64 (k0 + 4 * n : Nat)) ∧ Below w.heap.size w w' := by
  obtain ⟨a, cap, rfl, hr⟩ := hr
  have HR := hid hr
  clear hr
  go_enter Try.func38, Try.ntmps38
  go_wp2
  go_loopw [1, 5] (fun kk i wr => ∃ j : Nat, j ≤ n ∧ i = .int .i64 j ∧ kk = .int .i64 (k0 + 4 * j : Nat) ∧ Below w.heap.size w wr) (fun _ i _ => n - (intOf i).toNat)
  case atStart => exact ⟨0, Nat.zero_le _, rfl, rfl, Below.refl _ _⟩
  case round =>
    obtain ⟨j, hj, rfl, rfl, hB⟩ := hrel
    by_cases hlt : j < n
    · obtain ⟨b, off, rfl, hlt2, hcc⟩ := HR.out (by omega)
      have i1 : (j : Int) < (n : Int) := by omega
      have i0 : (0 : Int) ≤ (j : Int) := by omega
      have HC := hid (hcc j hlt)
      clear hcc
      have g0 : wr.cell? ⟨b, off + j * 4, none⟩ = some (.int .i64 ((k0 + 4 * j : Nat) : Int)) := (hB.cell (p := ⟨b, _, none⟩) hlt2).trans HC.out.1
      have g1 : wr.cell? ⟨b, off + j * 4 + 1, none⟩ = some (.string (mkT (k0 + 4 * j + 1))) := (hB.cell (p := ⟨b, _, none⟩) hlt2).trans HC.out.2.1
      have C1 : Hid (∀ W, Calls Try.prog 59 #[.int .i64 ((k0 + 4 * j + 1 : Nat) : Int)] W fun e w' => e = .returned (.string (mkT (k0 + 4 * j + 1))) ∧ Below W.heap.size W w') := hid (fun W => mkT_any _ W (by omega) (by omega))
      have e1 : ((mkT (k0 + 4 * j + 1)).toList == (mkT (k0 + 4 * j + 1)).toList) = true := beq_self_eq_true _
      have bl1 : b < wr.heap.size := Nat.lt_of_lt_of_le hlt2 hB.size
      go_wp2_with fail
      go_region_held3 (fun w' => w'.cell? ⟨b, off + j * 4 + 1, none⟩ = some (.string (mkT (k0 + 4 * j + 1)))) (go_keep)
        (first | (go_at_call 59; refine (C1.out _).mono ?_; rintro e v1 ⟨rfl, hb1⟩; have r1 := (hb1.cell (p := ⟨b, off + j * 4 + 1, none⟩) bl1).trans g1))
      have B1 : Below w.heap.size w v1 := hB.drew.trans (hb1.mono hB.size)
      clear g1 r1 C1 hb1
      have g2 : v1.cell? ⟨b, off + j * 4 + 2, none⟩ = some (.string (mkT (k0 + 4 * j + 2))) := (B1.cell (p := ⟨b, _, none⟩) hlt2).trans HC.out.2.2.1
      have C2 : Hid (∀ W, Calls Try.prog 59 #[.int .i64 ((k0 + 4 * j + 2 : Nat) : Int)] W fun e w' => e = .returned (.string (mkT (k0 + 4 * j + 2))) ∧ Below W.heap.size W w') := hid (fun W => mkT_any _ W (by omega) (by omega))
      have e2 : ((mkT (k0 + 4 * j + 2)).toList == (mkT (k0 + 4 * j + 2)).toList) = true := beq_self_eq_true _
      have bl2 : b < v1.heap.size := Nat.lt_of_lt_of_le hlt2 B1.size
      go_wp2_with fail
      go_region_held3 (fun w' => w'.cell? ⟨b, off + j * 4 + 2, none⟩ = some (.string (mkT (k0 + 4 * j + 2)))) (go_keep)
        (first | (go_at_call 59; refine (C2.out _).mono ?_; rintro e v2 ⟨rfl, hb2⟩; have r2 := (hb2.cell (p := ⟨b, off + j * 4 + 2, none⟩) bl2).trans g2))
      have B2 : Below w.heap.size w v2 := B1.drew.trans (hb2.mono B1.size)
      clear g2 r2 C2 hb2
      have g3 : v2.cell? ⟨b, off + j * 4 + 3, none⟩ = some (.string (mkT (k0 + 4 * j + 3))) := (B2.cell (p := ⟨b, _, none⟩) hlt2).trans HC.out.2.2.2
      have C3 : Hid (∀ W, Calls Try.prog 59 #[.int .i64 ((k0 + 4 * j + 3 : Nat) : Int)] W fun e w' => e = .returned (.string (mkT (k0 + 4 * j + 3))) ∧ Below W.heap.size W w') := hid (fun W => mkT_any _ W (by omega) (by omega))
      have e3 : ((mkT (k0 + 4 * j + 3)).toList == (mkT (k0 + 4 * j + 3)).toList) = true := beq_self_eq_true _
      have bl3 : b < v2.heap.size := Nat.lt_of_lt_of_le hlt2 B2.size
      go_wp2_with fail
      go_region_held3 (fun w' => w'.cell? ⟨b, off + j * 4 + 3, none⟩ = some (.string (mkT (k0 + 4 * j + 3)))) (go_keep)
        (first | (go_at_call 59; refine (C3.out _).mono ?_; rintro e v3 ⟨rfl, hb3⟩; have r3 := (hb3.cell (p := ⟨b, off + j * 4 + 3, none⟩) bl3).trans g3))
      have B3 : Below w.heap.size w v3 := B2.drew.trans (hb3.mono B2.size)
      clear g3 r3 C3 hb3
      go_wp2
      exact ⟨⟨j + 1, by omega, by go_num, by go_num, B3⟩, by simp [intOf]; omega⟩
    · obtain rfl : j = n := by omega
      go_wp2
      go_ret
      exact ⟨rfl, hB⟩
end Go.Proofs.Ytcdhhmedcplblaa
