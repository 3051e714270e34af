/- FnExactReadStep: marks of a step that was read, and the walk. -/
import Derived.Test.YtcpphobokdkkeaaDoorTG
import Derived.Test.YtcpphobokdkkeaaDoorWH2
import Derived.Test.YtcpphobokdkkeaaDoorHF
namespace Go.Proofs.YtcpphobokdkkeaaDoor
open Go Go.RowKit Go.Deep Go.Maps

theorem CatsAt.grown {w w' : World} {a : Option Addr} {b n : Nat} {f g : Nat → Int} {row : Option Nat} (hc : CatsAt w a n f g) (ha : 0 < n → a = some ⟨b, 0, none⟩) (hg : w.grownBy w' row) (hne : 0 < n → some b ≠ row) : CatsAt w' a n f g := fun h0 => by
  obtain ⟨b', off, e, hlt, hcc⟩ := hc h0
  have e3 := e.symm.trans (ha h0)
  simp only [Option.some.injEq, Addr.mk.injEq] at e3
  obtain ⟨rfl, _, _⟩ := e3
  have hb := hg.block b' hlt (hne h0)
  refine ⟨b', off, e, Nat.lt_of_lt_of_le hlt hg.size, fun i hi => ⟨?_, ?_⟩⟩
  · exact (by simp only [World.cell?]; rw [hb] : w'.cell? ⟨b', off + i * 2, none⟩ = w.cell? ⟨b', off + i * 2, none⟩).trans (hcc i hi).1
  · exact (by simp only [World.cell?]; rw [hb] : w'.cell? ⟨b', off + i * 2 + 1, none⟩ = w.cell? ⟨b', off + i * 2 + 1, none⟩).trans (hcc i hi).2
theorem RowAt.at {w : World} {a : Option Addr} {b n : Nat} (h : RowAt w a b n) (h0 : 0 < n) : a = some ⟨b, 0, none⟩ := (h h0).1
theorem RowAt.lt {w : World} {a : Option Addr} {b n : Nat} (h : RowAt w a b n) (h0 : 0 < n) : b < w.heap.size := by
  obtain ⟨_, m, F, _, hr⟩ := h h0
  exact hr.lt
/-- where the two lists lie -/
structure Rows2 (B : Nat) (w : World) (a1 : Option Addr) (b1 n1 : Nat) (a2 : Option Addr) (b2 n2 : Nat) : Prop where
  r1 : RowAt w a1 b1 n1
  r2 : RowAt w a2 b2 n2
  l1 : 0 < n1 → B ≤ b1
  l2 : 0 < n2 → B ≤ b2
  ne : 0 < n1 → 0 < n2 → b1 ≠ b2
theorem Two.rows {w W : World} {a1 a2 : Option Addr} {k1 k2 : Nat} {l1 l2 : List (Int × Int)} (h : Two w W (.slice a1 l1.length k1) (.slice a2 l2.length k2) l1 l2) : ∃ b1 b2, Rows2 w.heap.size W a1 b1 l1.length a2 b2 l2.length := by
  obtain ⟨M1, M2, h1, h2, h3, h4, h5⟩ := h
  obtain ⟨b1, r1, g1⟩ := RowAt.of_own h4
  obtain ⟨b2, r2, g2⟩ := RowAt.of_own h5
  exact ⟨b1, b2, r1, r2, fun h => by have := g1 h; omega, fun h => by have := g2 h; omega, fun p1 p2 => by
    have := h3 b1 (by rw [r1.at p1]; rfl)
    have := g2 p2
    omega⟩
theorem Rows2.below {B : Nat} {w w' : World} {a1 : Option Addr} {b1 n1 : Nat} {a2 : Option Addr} {b2 n2 : Nat} (h : Rows2 B w a1 b1 n1 a2 b2 n2) (hb : Below w.heap.size w w') : Rows2 B w' a1 b1 n1 a2 b2 n2 := ⟨h.r1.below hb, h.r2.below hb, h.l1, h.l2, h.ne⟩
theorem row_if {n b j : Nat} (e : (if 0 < n then some b else none) = some j) : 0 < n ∧ j = b := by split at e <;> simp_all

set_option maxRecDepth 100000 in
set_option maxHeartbeats 2000000 in
theorem markStep2_any (B : Nat) (th kind id to' cat : Int) (d : ByteArray) (bl : Int) (al : Option Addr) (nl kl : Nat) (bc : Int) (ac : Option Addr) (nc kc : Nat) (b1 b2 : Nat) (w : World)
    (hnl : nl ≤ 100) (hnc : nc ≤ 100) (hB : B ≤ w.heap.size) (hr : Rows2 B w al b1 nl ac b2 nc) :
    Calls Tryd.prog 12 #[.agg #[.int .i64 th, .int .i64 kind, .int .i64 id, .int .i64 to', .int .i64 cat, .string d, .int .i64 bl, .slice al nl kl, .int .i64 bc, .slice ac nc kc], .int .i64 1] w fun e w' => e = .returned (.int .i64 (1 + 2 * nl + 2 * nc)) ∧ CatsAt w' al nl (mk1 1) (mk2 1) ∧ CatsAt w' ac nc (mk1 (1 + 2 * nl)) (mk2 (1 + 2 * nl)) ∧ Below B w w' ∧ (∀ P o, Blk w P o → (0 < nl → P ≠ b1) → (0 < nc → P ≠ b2) → Blk w' P o) := by
  have hb0 := (Below.refl _ w).alloc (Nat.le_refl _) (.cells #[.int .i64 th, .int .i64 kind, .int .i64 id, .int .i64 to', .int .i64 cat, .string d, .int .i64 bl, .slice al nl kl, .int .i64 bc, .slice ac nc kc] 33)
  have A0 := Blk.new w (.cells #[.int .i64 th, .int .i64 kind, .int .i64 id, .int .i64 to', .int .i64 cat, .string d, .int .i64 bl, .slice al nl kl, .int .i64 bc, .slice ac nc kc] 33)
  have q := hr.below hb0
  have lt1 : 0 < nl → b1 < w.heap.size := fun h => hr.r1.lt h
  have lt2 : 0 < nc → b2 < w.heap.size := fun h => hr.r2.lt h
  have K0 : Hid (∀ P o, Blk w P o → Blk _ P o) := hid (fun P o h => h.alloc (.cells #[.int .i64 th, .int .i64 kind, .int .i64 id, .int .i64 to', .int .i64 cat, .string d, .int .i64 bl, .slice al nl kl, .int .i64 bc, .slice ac nc kc] 33))
  have HB := hid hb0
  obtain ⟨x0, x1, x2, x3, x4, x5, x6, x7, x8, x9⟩ := A0.ten
  have A0' := hid A0
  have Q := hid q
  clear A0 hb0 q hr
  go_enter Tryd.func12, Tryd.ntmps12
  go_wp2_with fail
  refine (markLabel_any _ _ b1 _ _ _ _ (by omega) (by omega) (by omega) Q.out.r1).mono ?_
  rintro e w1 ⟨rfl, hg1, C1⟩
  have A1 := hid (A0'.out.grown hg1 (fun e => by obtain ⟨p, rfl⟩ := row_if e.symm; have := lt1 p; omega))
  have r2 : RowAt w1 ac b2 nc := fun hp => Q.out.r2.grown hg1 (fun e => by obtain ⟨p, e2⟩ := row_if e.symm; exact Q.out.ne p hp e2.symm) hp
  have G1 := hid hg1
  have D1 := hid C1
  clear x0 x1 x2 x3 x4 x5 x6 x7 x8 x9 A0' hg1 C1
  obtain ⟨x0, x1, x2, x3, x4, x5, x6, x7, x8, x9⟩ := A1.out.ten
  go_wp2_with fail
  refine (markLabel_any _ _ b2 _ _ _ _ (by omega) (by omega) (by omega) r2).mono ?_
  rintro e w2 ⟨rfl, hg2, C2⟩
  have D2 := hid C2
  have G2 := hid hg2
  have D3 := hid (D1.out.grown (fun p => Q.out.r1.at p) hg2 (fun p e => by obtain ⟨p2, e2⟩ := row_if e.symm; exact Q.out.ne p p2 e2))
  clear C2 hg2 D1
  go_wp2
  go_ret
  refine ⟨rfl, D3.out, D2.out, ?_, fun P o hP n1 n2 => ?_⟩
  · have s1 : B ≤ (w.alloc (.cells #[.int .i64 th, .int .i64 kind, .int .i64 id, .int .i64 to', .int .i64 cat, .string d, .int .i64 bl, .slice al nl kl, .int .i64 bc, .slice ac nc kc] 33)).heap.size := by simp; omega
    exact ((HB.out.mono hB).trans (below_grown G1.out s1 (fun j hj => by obtain ⟨p, rfl⟩ := row_if hj; exact Q.out.l1 p))).trans (below_grown G2.out (Nat.le_trans s1 G1.out.size) (fun j hj => by obtain ⟨p, rfl⟩ := row_if hj; exact Q.out.l2 p))
  · have h1 := (K0.out P o hP).grown G1.out (fun e => by obtain ⟨p, e2⟩ := row_if e.symm; exact n1 p e2)
    exact h1.grown G2.out (fun e => by obtain ⟨p, e2⟩ := row_if e.symm; exact n2 p e2)
set_option maxRecDepth 100000 in
set_option maxHeartbeats 2000000 in
theorem heldStep2_any (th kind id to' cat : Int) (d : ByteArray) (bl : Int) (al : Option Addr) (nl kl : Nat) (bc : Int) (ac : Option Addr) (nc kc : Nat) (w : World)
    (hnl : nl ≤ 100) (hnc : nc ≤ 100) (h1 : CatsAt w al nl (mk1 1) (mk2 1)) (h2 : CatsAt w ac nc (mk1 (1 + 2 * nl)) (mk2 (1 + 2 * nl))) :
    Calls Tryd.prog 13 #[.agg #[.int .i64 th, .int .i64 kind, .int .i64 id, .int .i64 to', .int .i64 cat, .string d, .int .i64 bl, .slice al nl kl, .int .i64 bc, .slice ac nc kc], .int .i64 1] w fun e w' => e = .returned (.int .i64 (1 + 2 * nl + 2 * nc)) ∧ Below w.heap.size w w' := by
  have hb0 := (Below.refl _ w).alloc (Nat.le_refl _) (.cells #[.int .i64 th, .int .i64 kind, .int .i64 id, .int .i64 to', .int .i64 cat, .string d, .int .i64 bl, .slice al nl kl, .int .i64 bc, .slice ac nc kc] 33)
  have A0 := Blk.new w (.cells #[.int .i64 th, .int .i64 kind, .int .i64 id, .int .i64 to', .int .i64 cat, .string d, .int .i64 bl, .slice al nl kl, .int .i64 bc, .slice ac nc kc] 33)
  have q1 := h1.below hb0
  have q2 := h2.below hb0
  have p1 : ¬ (1 + 2 * (nl : Int) < 0) := by omega
  have p2 : ¬ (1 + 2 * (nl : Int) + 2 * (nc : Int) < 0) := by omega
  clear h1 h2
  obtain ⟨x0, x1, x2, x3, x4, x5, x6, x7, x8, x9⟩ := A0.ten
  go_enter Tryd.func13, Tryd.ntmps13
  go_wp2_with fail
  refine (heldLabel_any _ _ _ _ _ _ (by omega) (by omega) (by omega) q1).mono ?_
  rintro e w1 ⟨rfl, hb1⟩
  have A1 := A0.below hb1
  have q3 := q2.below hb1
  have B1 := then_ hb0 hb1
  clear x0 x1 x2 x3 x4 x5 x6 x7 x8 x9 A0 hb0 hb1 q1 q2
  obtain ⟨x0, x1, x2, x3, x4, x5, x6, x7, x8, x9⟩ := A1.ten
  go_wp2_with fail
  refine (heldLabel_any _ _ _ _ _ _ (by omega) (by omega) (by omega) q3).mono ?_
  rintro e w2 ⟨rfl, hb2⟩
  have B2 := then_ B1 hb2
  clear q3 A1 B1 hb2
  go_wp2
  go_ret
  exact ⟨rfl, B2⟩
end Go.Proofs.YtcpphobokdkkeaaDoor
