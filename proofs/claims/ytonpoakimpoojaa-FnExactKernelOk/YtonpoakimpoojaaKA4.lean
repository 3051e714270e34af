/- Kernels as they lie in memory: copies of lists of texts and of objects. -/
import Derived.Test.YtonpoakimpoojaaKA3
namespace Go.Proofs.Ytonpoakimpoojaa
open Go.RowKit Go.Deep

theorem Try.info9 : (Try.prog.info? 9).map (fun i => (i.zero, i.size, i.bytes)) = some (some (.string ⟨#[]⟩), 1, 16) := by kernel_rfl
def StrL.row (w : World) (c : StrL) : Prop := ∃ b, c.a = some ⟨b, 0, none⟩ ∧ w.rowIs b 9 c.n (fun i => .string (c.f i))
set_option maxRecDepth 100000 in
set_option maxHeartbeats 1000000 in
theorem toStringS_any (a : Option Addr) (n cap : Nat) (f : Nat → ByteArray) (w : World) (hn : n ≤ 1048576) (hc : StrAt w a n f) :
    Calls Try.prog 90 #[.slice a n cap] w fun e w' => e = .returned (.slice (some ⟨w.heap.size, 0, none⟩) n n) ∧ w'.rowIs w.heap.size 9 n (fun i => .string (f i)) ∧ Below w.heap.size w w' := by
  have hmk := run_make_row' (P := Try.prog) 38 9 _ 16 Try.underlying38 Try.info9 rfl .i64 .i64 n (by omega) (by omega)
  go_enter Try.func90, Try.ntmps90
  go_wp2
  go_loopw [4] (fun i wr => ∃ k : Nat, k ≤ n ∧ i = .int .i64 k ∧ (∃ G, wr.rowIs w.heap.size 9 n G ∧ ∀ j, j < k → G j = .string (f j)) ∧ Below w.heap.size w wr) (fun i _ => n - (intOf i).toNat)
  case atStart => exact ⟨0, Nat.zero_le _, rfl, ⟨_, World.rowIs_made w (.string ⟨#[]⟩) n 9, fun j hj => by omega⟩, (Below.refl _ _).alloc (Nat.le_refl _) _⟩
  case round =>
    obtain ⟨k, hk, rfl, ⟨G, hrow, hG⟩, hB⟩ := hrel
    clear hmk
    have HG := hid hG
    clear hG
    by_cases hlt' : k < n
    · obtain ⟨b, off, rfl, hlt, hc⟩ := hc (by omega)
      have g1 : wr.cell? ⟨b, off + k, none⟩ = some (.string (f k)) := (hB.cell (p := ⟨b, _, none⟩) hlt).trans (hc k hlt')
      have c1 := hrow.cell (i := k) (by omega)
      have f1 := hrow.frozen k
      clear hc
      go_wp2
      refine ⟨⟨k + 1, by omega, by go_num, ⟨_, hrow.set k (.string (f k)), fun j hj => ?_⟩, hB.setCell (Nat.le_refl _) _⟩, by simp [intOf]; omega⟩
      by_cases e : j = k
      · subst e; simp
      · rw [if_neg e]; exact HG.out j (by omega)
    · clear hc
      go_wp2
      go_ret
      have e : k = n := by omega
      subst e
      exact ⟨rfl, hrow.congr (fun j hj => HG.out j hj), hB⟩

theorem Blk.setAt {W : World} {P t i : Nat} {cs : Array Value} (h : Blk W P (.cells cs t)) (v : Value) : Blk (W.setCell ⟨P, i, none⟩ v) P (.cells (cs.setIfInBounds i v) t) := by
  unfold Blk at *
  simp [World.setCell, Array.getElem?_modify, h]
theorem Blk.warm {W : World} {P t : Nat} {cs : Array Value} (h : Blk W P (.cells cs t)) (i : Nat) : W.frozen? ⟨P, i, none⟩ = false := by
  unfold Blk at h
  simp [World.frozen?, h]
theorem Blk.other {W : World} {P Q i : Nat} {o : Obj} (h : Blk W P o) (hne : Q ≠ P) (v : Value) : Blk (W.setCell ⟨Q, i, none⟩ v) P o := by
  unfold Blk at *
  simp [World.setCell, Array.getElem?_modify, h, hne]
theorem Blk.all10 {W : World} {P t : Nat} {z0 z1 z2 z3 z4 z5 z6 z7 z8 z9 : Value} (h : Blk W P (.cells #[z0, z1, z2, z3, z4, z5, z6, z7, z8, z9] t)) (x0 x1 x2 x3 x4 x5 x6 x7 x8 x9 : Value) :
    Blk ((((((((((W.setCell ⟨P, 0, none⟩ x0).setCell ⟨P, 1, none⟩ x1).setCell ⟨P, 2, none⟩ x2).setCell ⟨P, 3, none⟩ x3).setCell ⟨P, 4, none⟩ x4).setCell ⟨P, 5, none⟩ x5).setCell ⟨P, 6, none⟩ x6).setCell ⟨P, 7, none⟩ x7).setCell ⟨P, 8, none⟩ x8).setCell ⟨P, 9, none⟩ x9) P (.cells #[x0, x1, x2, x3, x4, x5, x6, x7, x8, x9] t) := by
  have h0 : Blk _ P (.cells #[x0, z1, z2, z3, z4, z5, z6, z7, z8, z9] t) := h.setAt (i := 0) x0
  have h1 : Blk _ P (.cells #[x0, x1, z2, z3, z4, z5, z6, z7, z8, z9] t) := h0.setAt (i := 1) x1
  have h2 : Blk _ P (.cells #[x0, x1, x2, z3, z4, z5, z6, z7, z8, z9] t) := h1.setAt (i := 2) x2
  have h3 : Blk _ P (.cells #[x0, x1, x2, x3, z4, z5, z6, z7, z8, z9] t) := h2.setAt (i := 3) x3
  have h4 : Blk _ P (.cells #[x0, x1, x2, x3, x4, z5, z6, z7, z8, z9] t) := h3.setAt (i := 4) x4
  have h5 : Blk _ P (.cells #[x0, x1, x2, x3, x4, x5, z6, z7, z8, z9] t) := h4.setAt (i := 5) x5
  have h6 : Blk _ P (.cells #[x0, x1, x2, x3, x4, x5, x6, z7, z8, z9] t) := h5.setAt (i := 6) x6
  have h7 : Blk _ P (.cells #[x0, x1, x2, x3, x4, x5, x6, x7, z8, z9] t) := h6.setAt (i := 7) x7
  have h8 : Blk _ P (.cells #[x0, x1, x2, x3, x4, x5, x6, x7, x8, z9] t) := h7.setAt (i := 8) x8
  exact h8.setAt (i := 9) x9
set_option maxRecDepth 100000 in
theorem results69 (tmps : Array Value) (W : World) (P : Nat) (x0 x1 x2 x3 x4 x5 x6 x7 x8 x9 : Value) (h : Blk W P (.cells #[x0, x1, x2, x3, x4, x5, x6, x7, x8, x9] 41)) (h2 : tmps[2]? = some (.pointer (some ⟨P, 0, none⟩))) :
    (results Try.f69 tmps).run Try.prog W = .ok (.agg #[x0, x1, x2, x3, x4, x5, x6, x7, x8, x9]) W := by
  obtain ⟨z0, z1, z2, z3, z4, z5, z6, z7, z8, z9⟩ := h.ten
  simp [results, Try.results69, go_sem, h2, z0, z1, z2, z3, z4, z5, z6, z7, z8, z9]
end Go.Proofs.Ytonpoakimpoojaa
