/- The reader's addresses and routes. -/
import Derived.Test.YthlejmofhcgkdaaSA
import Derived.Test.YthlejmofhcgkdaaURN
import Derived.Test.YthlejmofhcgkdaaROPK
import Derived.Test.YthlejmofhcgkdaaROPT
import Derived.Deep.DeepCutAuto
import Derived.Shelf.Abstract
import Derived.Shelf.RegionOpen
namespace Go.Proofs.Ythlejmofhcgkdaa
open Go Go.RowKit Go.Deep Go.Maps Go.Shelf

set_option maxRecDepth 100000 in
set_option maxHeartbeats 2000000 in
theorem rdAddr_any (w0 : World) (rb : Nat) (a : Option Addr) (n cap : Nat) (w : World) (h : Rd w0 w rb a n cap) :
    Calls Try.prog 17 #[.pointer (some ⟨rb, 0, none⟩)] w fun e w' => ∃ x : Int, e = .returned (.int .i64 x) ∧ 0 ≤ x ∧ x ≤ 4294967295 ∧ Rd w0 w' rb a n cap ∧ w.grownBy w' (some rb) := by
  have hrb : rb < w.heap.size := h.lt
  have K0 := (Below.refl _ w).alloc (Nat.le_refl _) (.cells #[.int .i64 167772161, .int .i64 167772162, .int .i64 3232235777, .int .i64 134744072, .int .i64 0, .int .i64 4294967295] 2)
  have A0 := Blk.new w (.cells #[.int .i64 167772161, .int .i64 167772162, .int .i64 3232235777, .int .i64 134744072, .int .i64 0, .int .i64 4294967295] 2)
  have R0 := h.below K0
  have g0 := World.grownBy_alloc w (.cells #[.int .i64 167772161, .int .i64 167772162, .int .i64 3232235777, .int .i64 134744072, .int .i64 0, .int .i64 4294967295] 2) (some rb)
  go_enter Try.func17, Try.ntmps17
  go_wp2_with fail
  refine (below_any w0 rb a n cap 6 _ (by omega) R0).mono ?_
  rintro e w1 ⟨x, rfl, _, hx6, R1, hg1⟩
  have hx : x < 6 := hx6 (by omega)
  have A1 := A0.grown hg1 (by simp; omega)
  have G1 : w.grownBy w1 (some rb) := grown_pair g0 hg1
  unfold Blk at A1
  clear K0 R0 g0 hg1 h A0
  have c0 : w1.cell? ⟨w.heap.size, 0, none⟩ = some (.int .i64 167772161) := by simp [World.cell?, A1]
  have c1 : w1.cell? ⟨w.heap.size, 1, none⟩ = some (.int .i64 167772162) := by simp [World.cell?, A1]
  have c2 : w1.cell? ⟨w.heap.size, 2, none⟩ = some (.int .i64 3232235777) := by simp [World.cell?, A1]
  have c3 : w1.cell? ⟨w.heap.size, 3, none⟩ = some (.int .i64 134744072) := by simp [World.cell?, A1]
  have c4 : w1.cell? ⟨w.heap.size, 4, none⟩ = some (.int .i64 0) := by simp [World.cell?, A1]
  have c5 : w1.cell? ⟨w.heap.size, 5, none⟩ = some (.int .i64 4294967295) := by simp [World.cell?, A1]
  clear A1 hx6
  obtain rfl | rfl | rfl | rfl | rfl | rfl : x = 0 ∨ x = 1 ∨ x = 2 ∨ x = 3 ∨ x = 4 ∨ x = 5 := by omega
  all_goals
    go_wp2
    go_ret
    exact ⟨_, rfl, by decide, by decide, R1, G1⟩

def bits6 : Nat → Nat
  | 0 => 0
  | 1 => 8
  | 2 => 16
  | 3 => 24
  | 4 => 32
  | _ => 30
theorem bits6_le (x : Nat) : bits6 x ≤ 32 := by unfold bits6; split <;> omega
def bitsBlk : Obj := .cells #[.int .i64 0, .int .i64 8, .int .i64 16, .int .i64 24, .int .i64 32, .int .i64 30] 2
theorem bits_at {W : World} {b x : Nat} (h : W.heap[b]? = some bitsBlk) (hx : x < 6) : W.cell? ⟨b, x, none⟩ = some (.int .i64 (bits6 x : Nat)) := by
  simp only [World.cell?, h, bitsBlk]
  match x, hx with
  | 0, _ => rfl
  | 1, _ => rfl
  | 2, _ => rfl
  | 3, _ => rfl
  | 4, _ => rfl
  | 5, _ => rfl
theorem size26 (bb : Nat) (W : World) (h : bb ≤ 32) : Calls Try.prog 26 #[.int .i64 (bb : Int)] W fun e w' => e = .returned (.int .i64 (2 ^ (32 - bb))) ∧ w' = W := by
  have e : (bb : Int) = 32 - ((32 - bb : Nat) : Int) := by omega
  rw [e]
  exact l8Size_any (32 - bb) W (by omega)
theorem Blk.three {W : World} {P t : Nat} {x y z : Value} (h : Blk W P (.cells #[x, y, z] t)) : W.cell? ⟨P, 0, none⟩ = some x ∧ W.cell? ⟨P, 1, none⟩ = some y ∧ W.cell? ⟨P, 2, none⟩ = some z := by
  unfold Blk at h
  simp [World.cell?, h]
theorem Blk.thaw3 {W : World} {P t : Nat} {x y z : Value} (h : Blk W P (.cells #[x, y, z] t)) : W.frozen? ⟨P, 0, none⟩ = false ∧ W.frozen? ⟨P, 1, none⟩ = false ∧ W.frozen? ⟨P, 2, none⟩ = false := by
  unfold Blk at h
  simp [World.frozen?, h]

set_option maxRecDepth 100000 in
set_option maxHeartbeats 2000000 in
theorem oneRoute_any (w0 : World) (rb : Nat) (a : Option Addr) (n cap : Nat) (w : World) (h : Rd w0 w rb a n cap) :
    Calls Try.prog 27 #[.pointer (some ⟨rb, 0, none⟩)] w fun e w' => ∃ x y z : Int, e = .returned (.agg #[.int .i64 x, .int .i64 y, .int .i64 z]) ∧ Rd w0 w' rb a n cap ∧ w.grownBy w' (some rb) := by
  have hrb : rb < w.heap.size := h.lt
  have K0 := ((Below.refl _ w).alloc (Nat.le_refl _) (.cells #[.int .i64 0, .int .i64 0, .int .i64 0] 29)).alloc (by simp) bitsBlk
  have A0 := (Blk.new w (.cells #[.int .i64 0, .int .i64 0, .int .i64 0] 29)).alloc bitsBlk
  have A1 := Blk.new (w.alloc (.cells #[.int .i64 0, .int .i64 0, .int .i64 0] 29)) bitsBlk
  rw [World.size_alloc] at A1
  have R0 := h.below K0
  have g0 : w.grownBy ((w.alloc (.cells #[.int .i64 0, .int .i64 0, .int .i64 0] 29)).alloc bitsBlk) (some rb) := grown_trans (World.grownBy_alloc w _ (some rb)) (World.grownBy_alloc _ _ none) (fun j e => by cases e)
  go_enter Try.func27, Try.ntmps27
  go_wp2_with fail
  refine (below_any w0 rb a n cap 6 _ (by omega) R0).mono ?_
  rintro e w1 ⟨x, rfl, _, hx6, R1, hg1⟩
  have hx : x < 6 := hx6 (by omega)
  have G1 : w.grownBy w1 (some rb) := grown_pair g0 hg1
  have D0 := A0.grown hg1 (by simp; omega)
  have D1 := A1.grown hg1 (by simp; omega)
  have cb := bits_at D1 hx
  have xi : (x : Int) < 6 := by omega
  clear K0 R0 g0 hg1 h A0 A1 hx6
  go_wp2_with fail
  refine (rdAddr_any w0 rb a n cap _ R1).mono ?_
  rintro e w2 ⟨t, rfl, t0, t1, R2, hg2⟩
  have G2 := grown_pair G1 hg2
  have D2 := D0.grown hg2 (by simp; omega)
  have hb32 := bits6_le x
  generalize bits6 x = bb at *
  clear R1 G1 D0 D1 hg2 cb
  have HR2 := hid R2
  have HG2 := hid G2
  have HD2 := hid D2
  have lt2 : w.heap.size < w2.heap.size := D2.lt
  clear R2 G2 D2
  have F26 := hid (fun W => size26 bb W hb32)
  have q0 : (0 : Int) < 2 ^ (32 - bb) := Int.pow_pos (by decide)
  generalize (2 : Int) ^ (32 - bb) = q at *
  have q1 : ¬ q = 0 := by omega
  have q2 : ¬ q = -1 := by omega
  have q3 := Int.emod_nonneg t q1
  have q4 := Int.emod_lt_of_pos t q0
  have q5 : t % q ≤ t := by
    rcases Int.lt_or_le t q with c | c
    · rw [Int.emod_eq_of_lt t0 c]; exact Int.le_refl _
    · omega
  have e1 : wrap64 (t - t % q) = t - t % q := by unfold wrap64; omega
  have RA : Hid (∀ W, Below w2.heap.size w2 W → Rd w0 W rb a n cap) := fun W h => HR2.out.below h
  have HE0 : Hid (Below w2.heap.size w2 w2.drew) := (Below.refl _ _).drew
  have HE1 : Hid (∀ o, Below w2.heap.size w2 (w2.alloc o).drew) := fun o => ((Below.refl _ _).alloc (Nat.le_refl _) o).drew
  go_upto_region 3 with fail
  go_cut [5] (fun p wc => ∃ (P : Nat) (x y z : Int), p = .pointer (some ⟨P, 0, none⟩) ∧ Blk wc P (.cells #[.int .i64 x, .int .i64 y, .int .i64 z] 29) ∧ w.heap.size < P ∧ rb < P ∧ Rd w0 wc rb a n cap ∧ w.grownBy wc (some rb) ∧ Blk wc w.heap.size (.cells #[.int .i64 0, .int .i64 0, .int .i64 0] 29))
  case first =>
    have BK : Hid ((w2.alloc (.cells #[.int .i64 0, .int .i64 0, .int .i64 0] 29)).drew.heap[w2.heap.size]? = some (.cells #[.int .i64 0, .int .i64 0, .int .i64 0] 29)) := heap_alloc_new _ _
    have HQ1 : Hid (w2.heap.size < (w2.alloc (.cells #[.int .i64 0, .int .i64 0, .int .i64 0] 29)).drew.heap.size) := by show _ < (w2.alloc _).heap.size; rw [World.size_alloc]; omega
    have rlt := HR2.out.lt
    have FA : Hid (∀ w3, Rd w0 w3 rb a n cap → w2.drew.grownBy w3 (some rb) → ∀ o, Rd w0 (w3.alloc o) rb a n cap ∧ w.grownBy (w3.alloc o) (some rb) ∧ Blk (w3.alloc o) w.heap.size (.cells #[.int .i64 0, .int .i64 0, .int .i64 0] 29) ∧ w.heap.size < w3.heap.size) := fun w3 r3 g3 o => by
      have g : w2.grownBy w3 (some rb) := ⟨g3.os, g3.tape, g3.output, g3.size, g3.block⟩
      have b3 := HD2.out.grown g (fun e => by have := Option.some.inj e; omega)
      exact ⟨r3.below ((Below.refl _ _).alloc (Nat.le_refl _) o), grown_trans (grown_pair HG2.out g) (World.grownBy_alloc w3 o none) (fun j e => by cases e), b3.alloc o, b3.lt⟩
    have FB : Hid (∀ w3, Rd w0 w3 rb a n cap → (w2.alloc (.cells #[.int .i64 0, .int .i64 0, .int .i64 0] 29)).drew.grownBy w3 (some rb) → ∀ x y z : Int, Blk (((w3.setCell ⟨w2.heap.size, 0, none⟩ (.int .i64 x)).setCell ⟨w2.heap.size, 1, none⟩ (.int .i64 y)).setCell ⟨w2.heap.size, 2, none⟩ (.int .i64 z)) w2.heap.size (.cells #[.int .i64 x, .int .i64 y, .int .i64 z] 29) ∧
        Rd w0 (((w3.setCell ⟨w2.heap.size, 0, none⟩ (.int .i64 x)).setCell ⟨w2.heap.size, 1, none⟩ (.int .i64 y)).setCell ⟨w2.heap.size, 2, none⟩ (.int .i64 z)) rb a n cap ∧ w.grownBy (((w3.setCell ⟨w2.heap.size, 0, none⟩ (.int .i64 x)).setCell ⟨w2.heap.size, 1, none⟩ (.int .i64 y)).setCell ⟨w2.heap.size, 2, none⟩ (.int .i64 z)) (some rb) ∧ Blk (((w3.setCell ⟨w2.heap.size, 0, none⟩ (.int .i64 x)).setCell ⟨w2.heap.size, 1, none⟩ (.int .i64 y)).setCell ⟨w2.heap.size, 2, none⟩ (.int .i64 z)) w.heap.size (.cells #[.int .i64 0, .int .i64 0, .int .i64 0] 29)) := fun w3 r3 g3 x y z => by
      have bk : w3.heap[w2.heap.size]? = some (.cells #[.int .i64 0, .int .i64 0, .int .i64 0] 29) := (g3.block w2.heap.size (by show _ < (w2.alloc _).heap.size; rw [World.size_alloc]; omega) (fun e => by have := Option.some.inj e; omega)).trans (heap_alloc_new _ _)
      have ga : w2.grownBy (w2.alloc (.cells #[.int .i64 0, .int .i64 0, .int .i64 0] 29)) (some rb) := World.grownBy_alloc _ _ _
      have g : w2.grownBy w3 (some rb) := grown_pair ga ⟨g3.os, g3.tape, g3.output, g3.size, g3.block⟩
      have gs : w3.grownBy (((w3.setCell ⟨w2.heap.size, 0, none⟩ (.int .i64 x)).setCell ⟨w2.heap.size, 1, none⟩ (.int .i64 y)).setCell ⟨w2.heap.size, 2, none⟩ (.int .i64 z)) (some w2.heap.size) := grown_set (grown_set (grown_set (grown_refl _ _) _ _) _ _) _ _
      have b3 := HD2.out.grown g (fun e => by have := Option.some.inj e; omega)
      have le0 := HR2.out.le
      refine ⟨?_, r3.other gs (by omega) (by omega), grown_trans (grown_pair HG2.out g) gs (fun j e => by cases e; omega), b3.grown gs (fun e => by have := Option.some.inj e; omega)⟩
      unfold Blk
      simp [World.setCell, Array.getElem?_modify, bk]
    have HQ2 : Hid (some w2.heap.size ≠ some rb) := fun e => by have := Option.some.inj e; omega
    go_region_with (first
      | (go_at_call 26; refine (F26.out _).mono ?_; rintro e v ⟨rfl, hv⟩; subst v)
      | (go_at_call 33; refine (below_any w0 rb a n cap 4 _ (by decide) (RA.out _ HE0.out)).mono ?_; rintro e w3 ⟨y, rfl, _, hy, R3, hg3⟩; have hy' : y < 4 := hy (by decide); have f1 := R3)
      | (go_at_call 33; refine (below_any w0 rb a n cap 4 _ (by decide) (RA.out _ (HE1.out (.cells #[.int .i64 0, .int .i64 0, .int .i64 0] 29)))).mono ?_; rintro e w3 ⟨y, rfl, _, hy, R3, hg3⟩; have hy' : y < 4 := hy (by decide); have bk := (hg3.block w2.heap.size HQ1.out HQ2.out).trans BK.out; have k0 : w3.cell? ⟨w2.heap.size, 0, none⟩ = some (.int .i64 0) := by simp [World.cell?, bk]
         have k1 : w3.cell? ⟨w2.heap.size, 1, none⟩ = some (.int .i64 0) := by simp [World.cell?, bk]
         have k2 : w3.cell? ⟨w2.heap.size, 2, none⟩ = some (.int .i64 0) := by simp [World.cell?, bk]
         have fz : ∀ i, w3.frozen? ⟨w2.heap.size, i, none⟩ = false := fun i => by simp [World.frozen?, bk]
         have fz0 := fz 0
         have fz1 := fz 1
         have fz2 := fz 2))
    all_goals (
      go_wp2_with fail
      go_meet
      case rel =>
        first
          | (have f1' := f1
             obtain ⟨r1, r2, r3, r4⟩ := FA.out w3 R3 hg3 _
             exact ⟨_, _, _, _, rfl, Blk.new w3 _, r4, Nat.lt_trans hrb r4, r1, r2, r3⟩)
          | (obtain ⟨r0, r1, r2, r3⟩ := FB.out w3 R3 hg3 _ _ _
             exact ⟨_, _, _, _, rfl, r0, lt2, rlt, r1, r2, r3⟩))
  case rest =>
    obtain ⟨P, x, y, z, rfl, hP, h1, h2, R4, G4, D4⟩ := hcut
    clear HR2 HG2 HD2 RA HE0 HE1 F26 lt2
    have FIN : Hid (∀ (W : World) (x y z : Int), Blk W P (.cells #[.int .i64 x, .int .i64 y, .int .i64 z] 29) → Rd w0 W rb a n cap → w.grownBy W (some rb) → Blk W w.heap.size (.cells #[.int .i64 0, .int .i64 0, .int .i64 0] 29) →
        Blk (((W.setCell ⟨w.heap.size, 0, none⟩ (.int .i64 x)).setCell ⟨w.heap.size, 1, none⟩ (.int .i64 y)).setCell ⟨w.heap.size, 2, none⟩ (.int .i64 z)) w.heap.size (.cells #[.int .i64 x, .int .i64 y, .int .i64 z] 29) ∧ Rd w0 (((W.setCell ⟨w.heap.size, 0, none⟩ (.int .i64 x)).setCell ⟨w.heap.size, 1, none⟩ (.int .i64 y)).setCell ⟨w.heap.size, 2, none⟩ (.int .i64 z)) rb a n cap ∧ w.grownBy (((W.setCell ⟨w.heap.size, 0, none⟩ (.int .i64 x)).setCell ⟨w.heap.size, 1, none⟩ (.int .i64 y)).setCell ⟨w.heap.size, 2, none⟩ (.int .i64 z)) (some rb)) := fun W x y z hp r g d => by
      have gs : W.grownBy (((W.setCell ⟨w.heap.size, 0, none⟩ (.int .i64 x)).setCell ⟨w.heap.size, 1, none⟩ (.int .i64 y)).setCell ⟨w.heap.size, 2, none⟩ (.int .i64 z)) (some w.heap.size) := grown_set (grown_set (grown_set (grown_refl _ _) _ _) _ _) _ _
      have le0 := r.le
      have E := r.E.size
      refine ⟨?_, r.other gs (by omega) (by omega), grown_trans g gs (fun j e => by cases e; omega)⟩
      unfold Blk at d ⊢
      simp [World.setCell, Array.getElem?_modify, d]
    go_wp2_with fail
    refine (once_any w0 rb a n cap 24 _ (by omega) R4).mono ?_
    rintro e w5 ⟨b, rfl, R5, hg5⟩
    have hP5 := hP.grown hg5 (fun e => by have := Option.some.inj e; omega)
    have D5 := D4.grown hg5 (fun e => by have := Option.some.inj e; omega)
    have G5 := grown_pair G4 hg5
    clear hP R4 G4 D4 hg5
    cases b with
    | false =>
      obtain ⟨c0, c1, c2⟩ := hP5.three
      obtain ⟨d0, d1, d2⟩ := D5.three
      obtain ⟨f0, f1, f2⟩ := D5.thaw3
      obtain ⟨r1, r2, r3⟩ := FIN.out w5 x y z hP5 R5 G5 D5
      obtain ⟨e0, e1, e2⟩ := r1.three
      clear hP5 R5 G5 D5
      go_wp2
      refine bodyPost_ret (v := .agg #[.int .i64 x, .int .i64 y, .int .i64 z]) ?_ rfl ⟨x, y, z, rfl, r2, r3⟩
      simp [results, Try.results27, go_sem, e0, e1, e2]
    | true =>
      go_wp2_with fail
      refine (off_big w0 rb a n cap 0 32 _ (by decide) (by decide) R5).mono ?_
      rintro e w6 ⟨u, rfl, _, R6, hg6⟩
      have hP6 := hP5.grown hg6 (fun e => by have := Option.some.inj e; omega)
      have D6 := D5.grown hg6 (fun e => by have := Option.some.inj e; omega)
      have G6 := grown_pair G5 hg6
      clear hP5 R5 G5 D5 hg6
      have gs : w6.grownBy (w6.setCell ⟨P, 1, none⟩ (.int .i64 u)) (some P) := grown_set (grown_refl _ _) _ _
      have le0 := R6.le
      have E := R6.E.size
      have R7 := R6.other gs (by omega) (by omega)
      have G7 := grown_trans G6 gs (fun j e => by cases e; omega)
      have D7 := D6.grown gs (fun e => by have := Option.some.inj e; omega)
      have hP7 : Blk (w6.setCell ⟨P, 1, none⟩ (.int .i64 u)) P (.cells #[.int .i64 x, .int .i64 u, .int .i64 z] 29) := by
        unfold Blk at hP6 ⊢
        simp [World.setCell, Array.getElem?_modify, hP6]
      obtain ⟨c0, c1, c2⟩ := hP6.three
      obtain ⟨f0, f1, f2⟩ := hP6.thaw3
      clear hP6 R6 G6 D6 gs
      obtain ⟨d0, d1, d2⟩ := D7.three
      obtain ⟨g0, g1, g2⟩ := D7.thaw3
      obtain ⟨k0, k1, k2⟩ := hP7.three
      obtain ⟨r1, r2, r3⟩ := FIN.out _ x u z hP7 R7 G7 D7
      obtain ⟨e0, e1, e2⟩ := r1.three
      clear hP7 R7 G7 D7
      go_wp2
      refine bodyPost_ret (v := .agg #[.int .i64 x, .int .i64 u, .int .i64 z]) ?_ rfl ⟨x, u, z, rfl, r2, r3⟩
      simp [results, Try.results27, go_sem, e0, e1, e2]
end Go.Proofs.Ythlejmofhcgkdaa
