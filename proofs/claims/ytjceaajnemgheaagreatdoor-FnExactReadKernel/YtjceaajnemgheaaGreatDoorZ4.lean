/- Kernels as they lie in memory: rows of threads that are the same compare equal. -/
import Derived.Test.YtjceaajnemgheaaGreatDoorZ3
import Derived.Deep.RegionHeld3
import Derived.Deep.QuietTactic
import Derived.BigQuiet
import Derived.Test.YtjceaajnemgheaaGreatDoorZ1
import Derived.Lib.ConvBytes
namespace Go.Proofs.YtjceaajnemgheaaGreatDoor
open Go.RowKit Go.Deep

set_option maxRecDepth 100000 in
set_option maxHeartbeats 2000000 in
theorem eqThreadS_any (a a' : Option Addr) (n cap cap' : Nat) (T U : Nat → ThrV) (w : World) (hn : n ≤ maxLen) (hT : ThrsAt w a n T) (hU : ThrsAt w a' n U) (hs : ∀ i, i < n → (T i).same (U i)) :
    Calls Tryz.prog 16 #[.slice a n cap, .slice a' n cap'] w fun e w' => e = .returned (.bool true) ∧ Below w.heap.size w w' := by
  unfold maxLen at hn
  have HT := hid hT
  have HU := hid hU
  have HS := hid hs
  clear hT hU hs
  go_enter Tryz.func16, Tryz.ntmps16
  go_wp2
  go_loopw [5] (fun i wr => ∃ k : Nat, k ≤ n ∧ i = .int .i64 k ∧ Below w.heap.size w wr) (fun i _ => n - (intOf i).toNat)
  case atStart => exact ⟨0, Nat.zero_le _, rfl, Below.refl _ _⟩
  case round =>
    obtain ⟨k, hk, rfl, hB⟩ := hrel
    by_cases hlt' : k < n
    · obtain ⟨b, off, rfl, hl1, hc⟩ := HT.out.below hB (by omega)
      obtain ⟨b', off', rfl, hl2, hc'⟩ := HU.out.below hB (by omega)
      obtain ⟨q, qa⟩ := hc k hlt'
      obtain ⟨r, ra⟩ := hc' k hlt'
      have Q := hid (show Cells7 wr.drew b (off + k * 7) (T k) from ⟨q.c0, q.c1, q.c2, q.c3, q.c4, q.c5, q.c6⟩)
      have R := hid (show Cells7 wr.drew b' (off' + k * 7) (U k) from ⟨r.c0, r.c1, r.c2, r.c3, r.c4, r.c5, r.c6⟩)
      have EQ := hid (eqThread_v (T k) (U k) wr.drew (qa.below (Below.refl _ wr).drew) (ra.below (Below.refl _ wr).drew) (HS.out k hlt'))
      unfold ThrV.val at EQ
      obtain ⟨g0, g1, g2, g3, g4, g5, g6⟩ := q
      obtain ⟨h0, h1, h2, h3, h4, h5, h6⟩ := r
      have i0 : (0 : Int) ≤ (k : Int) := by omega
      have i1 : (k : Int) < (n : Int) := by omega
      have hl1' : b < wr.drew.heap.size := hl1
      have hl2' : b' < wr.drew.heap.size := hl2
      clear hc hc' qa ra
      go_wp2_with fail
      go_region_held3 (fun w' => w'.cell? ⟨b, off + k * 7, none⟩ = some (.int .i64 (T k).id) ∧ w'.cell? ⟨b, off + k * 7 + 1, none⟩ = some (.int .i64 (T k).b1) ∧ w'.cell? ⟨b, off + k * 7 + 2, none⟩ = some ((T k).c1.val) ∧ w'.cell? ⟨b, off + k * 7 + 3, none⟩ = some (.int .i64 (T k).b2) ∧ w'.cell? ⟨b, off + k * 7 + 4, none⟩ = some ((T k).c2.val) ∧ w'.cell? ⟨b, off + k * 7 + 5, none⟩ = some ((T k).own.val) ∧ w'.cell? ⟨b, off + k * 7 + 6, none⟩ = some (.int .i64 (T k).made) ∧ w'.cell? ⟨b', off' + k * 7, none⟩ = some (.int .i64 (U k).id) ∧ w'.cell? ⟨b', off' + k * 7 + 1, none⟩ = some (.int .i64 (U k).b1) ∧ w'.cell? ⟨b', off' + k * 7 + 2, none⟩ = some ((U k).c1.val) ∧ w'.cell? ⟨b', off' + k * 7 + 3, none⟩ = some (.int .i64 (U k).b2) ∧ w'.cell? ⟨b', off' + k * 7 + 4, none⟩ = some ((U k).c2.val) ∧ w'.cell? ⟨b', off' + k * 7 + 5, none⟩ = some ((U k).own.val) ∧ w'.cell? ⟨b', off' + k * 7 + 6, none⟩ = some (.int .i64 (U k).made)) (go_keep)
        (first | (go_at_call 35; refine EQ.out.mono ?_; rintro e w1 ⟨rfl, hb1⟩; obtain ⟨p0, p1, p2, p3, p4, p5, p6⟩ := Q.out.below hl1' hb1; obtain ⟨q0, q1, q2, q3, q4, q5, q6⟩ := R.out.below hl2' hb1))
      have hB1 : Below w.heap.size w w1 := hB.drew.trans (hb1.mono hB.size)
      clear g0 g1 g2 g3 g4 g5 g6 h0 h1 h2 h3 h4 h5 h6 p0 p1 p2 p3 p4 p5 p6 q0 q1 q2 q3 q4 q5 q6 hb1
      go_wp2
      go_roundw
      case rel => exact ⟨k + 1, by omega, by go_num, hB1⟩
      case measure => simp [intOf]; omega
    · go_wp2
      go_ret
      exact ⟨rfl, hB⟩
set_option maxRecDepth 100000 in
set_option maxHeartbeats 1000000 in
theorem eqStringS_true (a a' : Option Addr) (n cap cap' : Nat) (f : Nat → ByteArray) (w : World) (hn : n ≤ maxLen) (hc : StrAt w a n f) (hc' : StrAt w a' n f) :
    Calls Tryz.prog 62 #[.slice a n cap, .slice a' n cap'] w fun e w' => e = .returned (.bool true) ∧ Below w.heap.size w w' := by
  unfold maxLen at hn
  go_enter Tryz.func62, Tryz.ntmps62
  go_wp2
  go_loopw [5] (fun i wr => ∃ k : Nat, k ≤ n ∧ i = .int .i64 k ∧ Below w.heap.size w wr) (fun i _ => n - (intOf i).toNat)
  case atStart => exact ⟨0, Nat.zero_le _, rfl, Below.refl _ _⟩
  case round =>
    obtain ⟨k, hk, rfl, hB⟩ := hrel
    by_cases hlt' : k < n
    · obtain ⟨b, off, rfl, hlt, hc⟩ := hc (by omega)
      obtain ⟨b', off', rfl, hlt2, hc'⟩ := hc' (by omega)
      have g1 : wr.cell? ⟨b, off + k, none⟩ = some (.string (f k)) := (hB.cell (p := ⟨b, _, none⟩) hlt).trans (hc k hlt')
      have g2 : wr.cell? ⟨b', off' + k, none⟩ = some (.string (f k)) := (hB.cell (p := ⟨b', _, none⟩) hlt2).trans (hc' k hlt')
      clear hc hc'
      have i0 : (0 : Int) ≤ (k : Int) := by omega
      have i1 : (k : Int) < (n : Int) := by omega
      go_wp2_with fail
      go_quiet (fail)
      go_wp2
      go_roundw
      case rel => exact ⟨k + 1, by omega, by go_num, below_drewN hB _⟩
      case measure => simp [intOf]; omega
    · clear hc hc'
      go_wp2
      go_ret
      exact ⟨rfl, hB⟩
end Go.Proofs.YtjceaajnemgheaaGreatDoor
namespace Go.Proofs.YtjceaajnemgheaaGreatDoor
open Go.RowKit Go.Deep

def ObjV.blk (t : ObjV) : Obj := .cells #[.int .i64 t.id, .int .i64 t.kind, .int .i64 t.up, .int .i64 t.b1, t.c1.val, .string t.data, t.items.val, t.own.val, .int .i64 t.b2, t.c2.val] 45
theorem eqLabel_v (b : Int) (c d : CatL) (w : World) (hc : c.at w) (hd : d.at w) (h : c.same d) :
    Calls Tryz.prog 60 #[.agg #[.int .i64 b, c.val], .agg #[.int .i64 b, d.val]] w fun e w' => e = .returned (.bool true) ∧ Below w.heap.size w w' := by
  obtain ⟨a, n, k, f, g⟩ := c
  obtain ⟨a', n', k', f', g'⟩ := d
  obtain ⟨e1, e2, e3⟩ := h
  simp only at e1 e2 e3
  subst e1 e2 e3
  exact eqLabel_true _ _ _ _ _ _ f' g' w hc.1 hc.2 hd.2
theorem eqStr_v (c d : StrL) (w : World) (hc : c.at w) (hd : d.at w) (h : c.same d) :
    Calls Tryz.prog 62 #[c.val, d.val] w fun e w' => e = .returned (.bool true) ∧ Below w.heap.size w w' := by
  obtain ⟨a, n, k, f⟩ := c
  obtain ⟨a', n', k', f'⟩ := d
  obtain ⟨e1, e2⟩ := h
  simp only at e1 e2
  subst e1 e2
  exact eqStringS_true _ _ _ _ _ f' w hc.1 hc.2.1 hd.2.1
theorem eqInt_v (c d : IntL) (w : World) (hc : c.at w) (hd : d.at w) (h : c.same d) :
    Calls Tryz.prog 61 #[c.val, d.val] w fun e w' => e = .returned (.bool true) ∧ Below w.heap.size w w' := by
  obtain ⟨a, n, k, f⟩ := c
  obtain ⟨a', n', k', f'⟩ := d
  obtain ⟨e1, e2⟩ := h
  simp only at e1 e2
  subst e1 e2
  exact eqInt64S_true _ _ _ _ _ f' w hc.1 hc.2 hd.2

set_option maxRecDepth 100000 in
set_option maxHeartbeats 2000000 in
theorem eqObject_v (t u : ObjV) (w : World) (ht : t.at w) (hu : u.at w) (h : t.same u) :
    Calls Tryz.prog 36 #[t.val, u.val] w fun e w' => e = .returned (.bool true) ∧ Below w.heap.size w w' := by
  obtain ⟨h1, h2, h3, h4, s1, h5, s2, s3, h6, s4⟩ := h
  obtain ⟨ui, uk, uu, ub1, uc1, ud, uit, uo, ub2, uc2⟩ := u
  simp only at h1 h2 h3 h4 h5 h6 s1 s2 s3 s4
  subst h1 h2 h3 h4 h5 h6
  have B0 := hid (((Below.refl _ w).alloc (Nat.le_refl _) t.blk).alloc (by simp) (.cells #[.int .i64 t.id, .int .i64 t.kind, .int .i64 t.up, .int .i64 t.b1, uc1.val, .string t.data, uit.val, uo.val, .int .i64 t.b2, uc2.val] 45))
  have P0 := hid ((Blk.new w t.blk).alloc (.cells #[.int .i64 t.id, .int .i64 t.kind, .int .i64 t.up, .int .i64 t.b1, uc1.val, .string t.data, uit.val, uo.val, .int .i64 t.b2, uc2.val] 45))
  have Q0 : Hid (Blk ((w.alloc t.blk).alloc (.cells #[.int .i64 t.id, .int .i64 t.kind, .int .i64 t.up, .int .i64 t.b1, uc1.val, .string t.data, uit.val, uo.val, .int .i64 t.b2, uc2.val] 45)) (w.heap.size + 1) (.cells #[.int .i64 t.id, .int .i64 t.kind, .int .i64 t.up, .int .i64 t.b1, uc1.val, .string t.data, uit.val, uo.val, .int .i64 t.b2, uc2.val] 45)) := by
    have := Blk.new (w.alloc t.blk) (.cells #[.int .i64 t.id, .int .i64 t.kind, .int .i64 t.up, .int .i64 t.b1, uc1.val, .string t.data, uit.val, uo.val, .int .i64 t.b2, uc2.val] 45)
    refine hid ?_
    simpa using this
  have T := hid ht
  have U := hid hu
  have E1 : Hid (∀ W, Below w.heap.size w W → Calls Tryz.prog 60 #[.agg #[.int .i64 t.b1, t.c1.val], .agg #[.int .i64 t.b1, uc1.val]] W fun e w' => e = .returned (.bool true) ∧ Below W.heap.size W w') := hid (fun W hW => eqLabel_v _ _ _ W (T.out.1.below hW) (U.out.1.below hW) s1)
  have E2 : Hid (∀ W, Below w.heap.size w W → Calls Tryz.prog 62 #[t.items.val, uit.val] W fun e w' => e = .returned (.bool true) ∧ Below W.heap.size W w') := hid (fun W hW => eqStr_v _ _ W (T.out.2.1.below hW) (U.out.2.1.below hW) s2)
  have E3 : Hid (∀ W, Below w.heap.size w W → Calls Tryz.prog 61 #[t.own.val, uo.val] W fun e w' => e = .returned (.bool true) ∧ Below W.heap.size W w') := hid (fun W hW => eqInt_v _ _ W (T.out.2.2.1.below hW) (U.out.2.2.1.below hW) s3)
  have E4 : Hid (∀ W, Below w.heap.size w W → Calls Tryz.prog 60 #[.agg #[.int .i64 t.b2, t.c2.val], .agg #[.int .i64 t.b2, uc2.val]] W fun e w' => e = .returned (.bool true) ∧ Below W.heap.size W w') := hid (fun W hW => eqLabel_v _ _ _ W (T.out.2.2.2.1.below hW) (U.out.2.2.2.1.below hW) s4)
  unfold ObjV.val
  unfold ObjV.blk at B0 P0 Q0
  simp only
  clear ht hu s1 s2 s3 s4
  go_enter Tryz.func36, Tryz.ntmps36
  go_wp2_with fail
  refine (E1.out _ B0.out).mono ?_
  rintro e w1 ⟨rfl, hb1⟩
  have P1 := hid (P0.out.below hb1)
  have Q1 := hid (Q0.out.below hb1)
  have B1 := hid (then_ B0.out hb1)
  clear P0 Q0 B0 hb1
  obtain ⟨p0, p1, p2, p3, p4, p5, p6, p7, p8, p9⟩ := P1.out.ten
  obtain ⟨q0, q1, q2, q3, q4, q5, q6, q7, q8, q9⟩ := Q1.out.ten
  go_wp2_with fail
  refine (E2.out _ B1.out).mono ?_
  rintro e w2 ⟨rfl, hb2⟩
  have P2 := hid (P1.out.below hb2)
  have Q2 := hid (Q1.out.below hb2)
  have B2 := hid (then_ B1.out hb2)
  clear p0 p1 p2 p3 p4 p5 p6 p7 p8 p9 q0 q1 q2 q3 q4 q5 q6 q7 q8 q9 P1 Q1 B1 hb2
  obtain ⟨p0, p1, p2, p3, p4, p5, p6, p7, p8, p9⟩ := P2.out.ten
  obtain ⟨q0, q1, q2, q3, q4, q5, q6, q7, q8, q9⟩ := Q2.out.ten
  go_wp2_with fail
  refine (E3.out _ B2.out).mono ?_
  rintro e w3 ⟨rfl, hb3⟩
  have P3 := hid (P2.out.below hb3)
  have Q3 := hid (Q2.out.below hb3)
  have B3 := hid (then_ B2.out hb3)
  clear p0 p1 p2 p3 p4 p5 p6 p7 p8 p9 q0 q1 q2 q3 q4 q5 q6 q7 q8 q9 P2 Q2 B2 hb3
  obtain ⟨p0, p1, p2, p3, p4, p5, p6, p7, p8, p9⟩ := P3.out.ten
  obtain ⟨q0, q1, q2, q3, q4, q5, q6, q7, q8, q9⟩ := Q3.out.ten
  go_wp2_with fail
  refine (E4.out _ B3.out).mono ?_
  rintro e w4 ⟨rfl, hb4⟩
  have B4 := then_ B3.out hb4
  clear p0 p1 p2 p3 p4 p5 p6 p7 p8 p9 q0 q1 q2 q3 q4 q5 q6 q7 q8 q9 P3 Q3 B3 hb4
  go_wp2
  go_ret
  exact ⟨rfl, B4⟩
set_option maxRecDepth 100000 in
set_option maxHeartbeats 2000000 in
theorem eqObjectS_any (a a' : Option Addr) (n cap cap' : Nat) (T U : Nat → ObjV) (w : World) (hn : n ≤ maxLen) (hT : ObjsAt w a n T) (hU : ObjsAt w a' n U) (hs : ∀ i, i < n → (T i).same (U i)) :
    Calls Tryz.prog 17 #[.slice a n cap, .slice a' n cap'] w fun e w' => e = .returned (.bool true) ∧ Below w.heap.size w w' := by
  unfold maxLen at hn
  have HT := hid hT
  have HU := hid hU
  have HS := hid hs
  clear hT hU hs
  go_enter Tryz.func17, Tryz.ntmps17
  go_wp2
  go_loopw [5] (fun i wr => ∃ k : Nat, k ≤ n ∧ i = .int .i64 k ∧ Below w.heap.size w wr) (fun i _ => n - (intOf i).toNat)
  case atStart => exact ⟨0, Nat.zero_le _, rfl, Below.refl _ _⟩
  case round =>
    obtain ⟨k, hk, rfl, hB⟩ := hrel
    by_cases hlt' : k < n
    · obtain ⟨b, off, rfl, hl1, hc⟩ := HT.out.below hB (by omega)
      obtain ⟨b', off', rfl, hl2, hc'⟩ := HU.out.below hB (by omega)
      obtain ⟨q, qa⟩ := hc k hlt'
      obtain ⟨r, ra⟩ := hc' k hlt'
      have Q := hid (show Cells10 wr.drew b (off + k * 10) (T k) from ⟨q.c0, q.c1, q.c2, q.c3, q.c4, q.c5, q.c6, q.c7, q.c8, q.c9⟩)
      have R := hid (show Cells10 wr.drew b' (off' + k * 10) (U k) from ⟨r.c0, r.c1, r.c2, r.c3, r.c4, r.c5, r.c6, r.c7, r.c8, r.c9⟩)
      have EQ := hid (eqObject_v (T k) (U k) wr.drew (qa.below (Below.refl _ wr).drew) (ra.below (Below.refl _ wr).drew) (HS.out k hlt'))
      unfold ObjV.val at EQ
      obtain ⟨g0, g1, g2, g3, g4, g5, g6, g7, g8, g9⟩ := q
      obtain ⟨h0, h1, h2, h3, h4, h5, h6, h7, h8, h9⟩ := r
      have i0 : (0 : Int) ≤ (k : Int) := by omega
      have i1 : (k : Int) < (n : Int) := by omega
      have hl1' : b < wr.drew.heap.size := hl1
      have hl2' : b' < wr.drew.heap.size := hl2
      clear hc hc' qa ra
      go_wp2_with fail
      go_region_held3 (fun w' => w'.cell? ⟨b, off + k * 10, none⟩ = some (.int .i64 (T k).id) ∧ w'.cell? ⟨b, off + k * 10 + 1, none⟩ = some (.int .i64 (T k).kind) ∧ w'.cell? ⟨b, off + k * 10 + 2, none⟩ = some (.int .i64 (T k).up) ∧ w'.cell? ⟨b, off + k * 10 + 3, none⟩ = some (.int .i64 (T k).b1) ∧ w'.cell? ⟨b, off + k * 10 + 4, none⟩ = some ((T k).c1.val) ∧ w'.cell? ⟨b, off + k * 10 + 5, none⟩ = some (.string (T k).data) ∧ w'.cell? ⟨b, off + k * 10 + 6, none⟩ = some ((T k).items.val) ∧ w'.cell? ⟨b, off + k * 10 + 7, none⟩ = some ((T k).own.val) ∧ w'.cell? ⟨b, off + k * 10 + 8, none⟩ = some (.int .i64 (T k).b2) ∧ w'.cell? ⟨b, off + k * 10 + 9, none⟩ = some ((T k).c2.val) ∧ w'.cell? ⟨b', off' + k * 10, none⟩ = some (.int .i64 (U k).id) ∧ w'.cell? ⟨b', off' + k * 10 + 1, none⟩ = some (.int .i64 (U k).kind) ∧ w'.cell? ⟨b', off' + k * 10 + 2, none⟩ = some (.int .i64 (U k).up) ∧ w'.cell? ⟨b', off' + k * 10 + 3, none⟩ = some (.int .i64 (U k).b1) ∧ w'.cell? ⟨b', off' + k * 10 + 4, none⟩ = some ((U k).c1.val) ∧ w'.cell? ⟨b', off' + k * 10 + 5, none⟩ = some (.string (U k).data) ∧ w'.cell? ⟨b', off' + k * 10 + 6, none⟩ = some ((U k).items.val) ∧ w'.cell? ⟨b', off' + k * 10 + 7, none⟩ = some ((U k).own.val) ∧ w'.cell? ⟨b', off' + k * 10 + 8, none⟩ = some (.int .i64 (U k).b2) ∧ w'.cell? ⟨b', off' + k * 10 + 9, none⟩ = some ((U k).c2.val)) (go_keep)
        (first | (go_at_call 36; refine EQ.out.mono ?_; rintro e w1 ⟨rfl, hb1⟩; obtain ⟨p0, p1, p2, p3, p4, p5, p6, p7, p8, p9⟩ := Q.out.below hl1' hb1; obtain ⟨q0, q1, q2, q3, q4, q5, q6, q7, q8, q9⟩ := R.out.below hl2' hb1))
      have hB1 : Below w.heap.size w w1 := hB.drew.trans (hb1.mono hB.size)
      clear g0 g1 g2 g3 g4 g5 g6 g7 g8 g9 h0 h1 h2 h3 h4 h5 h6 h7 h8 h9 p0 p1 p2 p3 p4 p5 p6 p7 p8 p9 q0 q1 q2 q3 q4 q5 q6 q7 q8 q9 hb1
      go_wp2
      go_roundw
      case rel => exact ⟨k + 1, by omega, by go_num, hB1⟩
      case measure => simp [intOf]; omega
    · go_wp2
      go_ret
      exact ⟨rfl, hB⟩
end Go.Proofs.YtjceaajnemgheaaGreatDoor
namespace Go.Proofs.YtjceaajnemgheaaGreatDoor
open Go.RowKit Go.Deep

set_option maxRecDepth 100000 in
set_option maxHeartbeats 2000000 in
theorem eqKernel_v (k l : KerV) (w : World) (hk : k.at w) (hl : l.at w) (h : k.same l) :
    Calls Tryz.prog 6 #[k.val, l.val] w fun e w' => e = .returned (.bool true) ∧ Below w.heap.size w w' := by
  obtain ⟨lta, ltn, ltk, lT, loa, lon, lok, lO⟩ := l
  obtain ⟨h1, h2, h3, h4⟩ := h
  simp only at h1 h2 h3 h4
  subst h1 h3
  have P0 := hid ((Blk.new w (.cells #[.slice k.ta k.tn k.tk, .slice k.oa k.on k.ok] 25)).alloc (.cells #[.slice lta k.tn ltk, .slice loa k.on lok] 25))
  have Q0 : Hid (Blk ((w.alloc (.cells #[.slice k.ta k.tn k.tk, .slice k.oa k.on k.ok] 25)).alloc (.cells #[.slice lta k.tn ltk, .slice loa k.on lok] 25)) (w.heap.size + 1) (.cells #[.slice lta k.tn ltk, .slice loa k.on lok] 25)) := by
    have := Blk.new (w.alloc (.cells #[.slice k.ta k.tn k.tk, .slice k.oa k.on k.ok] 25)) (.cells #[.slice lta k.tn ltk, .slice loa k.on lok] 25)
    refine hid ?_
    simpa using this
  have B0 := hid (((Below.refl _ w).alloc (Nat.le_refl _) (.cells #[.slice k.ta k.tn k.tk, .slice k.oa k.on k.ok] 25)).alloc (by simp) (.cells #[.slice lta k.tn ltk, .slice loa k.on lok] 25))
  have E1 : Hid (∀ W, Below w.heap.size w W → Calls Tryz.prog 16 #[.slice k.ta k.tn k.tk, .slice lta k.tn ltk] W fun e w' => e = .returned (.bool true) ∧ Below W.heap.size W w') := hid (fun W hW => eqThreadS_any _ _ _ _ _ k.T lT W hk.1 (hk.2.2.1.below hW) (hl.2.2.1.below hW) h2)
  have E2 : Hid (∀ W, Below w.heap.size w W → Calls Tryz.prog 17 #[.slice k.oa k.on k.ok, .slice loa k.on lok] W fun e w' => e = .returned (.bool true) ∧ Below W.heap.size W w') := hid (fun W hW => eqObjectS_any _ _ _ _ _ k.O lO W hk.2.1 (hk.2.2.2.below hW) (hl.2.2.2.below hW) h4)
  unfold KerV.val
  simp only
  clear hk hl h2 h4
  go_enter Tryz.func6, Tryz.ntmps6
  go_wp2_with fail
  refine (E1.out _ B0.out).mono ?_
  rintro e w1 ⟨rfl, hb1⟩
  have P1 := hid (P0.out.below hb1)
  have Q1 := hid (Q0.out.below hb1)
  have B1 := hid (then_ B0.out hb1)
  clear P0 Q0 B0 hb1
  obtain ⟨p0, p1⟩ := P1.out.two
  obtain ⟨q0, q1⟩ := Q1.out.two
  go_wp2_with fail
  refine (E2.out _ B1.out).mono ?_
  rintro e w2 ⟨rfl, hb2⟩
  have B2 := then_ B1.out hb2
  clear p0 p1 q0 q1 P1 Q1 B1 hb2
  go_wp2
  go_ret
  exact ⟨rfl, B2⟩
end Go.Proofs.YtjceaajnemgheaaGreatDoor
namespace Go.Proofs.YtjceaajnemgheaaGreatDoor
open Go.RowKit Go.Deep

def byteOk (b : UInt8) : Bool := decide (32 ≤ b.toNat) && decide (b.toNat ≤ 126)
def plainB (s : ByteArray) (most : Int) : Bool := s.data.toList.all byteOk && decide ((s.size : Int) ≤ most)

theorem plain_at {s : ByteArray} {most : Int} {k : Nat} (h : k < s.size) (hb : byteOk s[k] = false) : plainB s most = false := by
  have : s.data.toList.all byteOk = false := by
    rw [List.all_eq_false]
    exact ⟨s[k], Array.getElem_mem_toList h, by simp [hb]⟩
  simp [plainB, this]
theorem plain_all {s : ByteArray} {most : Int} (h : ∀ (k : Nat) (hk : k < s.size), byteOk s[k] = true) : plainB s most = decide ((s.size : Int) ≤ most) := by
  have : s.data.toList.all byteOk = true := by
    rw [List.all_eq_true]
    intro b hb
    obtain ⟨k, hk, rfl⟩ := List.getElem_of_mem hb
    have hk' : k < s.size := by simpa using hk
    have := h k hk'
    have e : s[k] = s.data.toList[k] := rfl
    rw [e] at this
    exact this
  simp [plainB, this]
theorem byteOk_lo {b : UInt8} (h : (b.toNat : Int) < 32) : byteOk b = false := by
  have : ¬ 32 ≤ b.toNat := by omega
  simp [byteOk, this]
theorem byteOk_hi {b : UInt8} (h : 126 < (b.toNat : Int)) : byteOk b = false := by
  have : ¬ b.toNat ≤ 126 := by omega
  simp [byteOk, this]
theorem byteOk_yes {b : UInt8} (h1 : 32 ≤ (b.toNat : Int)) (h2 : (b.toNat : Int) ≤ 126) : byteOk b = true := by
  have e1 : 32 ≤ b.toNat := by omega
  have e2 : b.toNat ≤ 126 := by omega
  simp [byteOk, e1, e2]

set_option maxHeartbeats 1000000 in
theorem l3Plain_any (s : ByteArray) (most : Int) (w : World) (hn : s.size ≤ maxLen) :
    Calls Tryz.prog 64 #[.string s, .int .i64 most] w fun e w' => e = .returned (.bool (plainB s most)) ∧ w' = w := by
  unfold maxLen at hn
  go_enter Tryz.func64, Tryz.ntmps64
  go_wp2
  go_loop [5] (fun i => ∃ k : Nat, k ≤ s.size ∧ i = .int .i64 k ∧ (∀ (j : Nat) (hj : j < s.size), j < k → byteOk s[j] = true)) (fun i => s.size - (intOf i).toNat)
  case atStart => exact ⟨0, Nat.zero_le _, rfl, fun j _ hj => by omega⟩
  case round =>
    obtain ⟨k, hk, rfl, hall⟩ := hrel
    have HA : Hid (∀ (j : Nat) (hj : j < s.size), j < k → byteOk s[j] = true) := hall
    clear hall
    by_cases hlt : k < s.size
    · have hki : (k : Int) < (s.size : Int) := by omega
      go_wp2
      · go_ret
        rename_i h1 h2 _
        refine ⟨ret_bool (plain_at hlt ?_).symm, rfl⟩
        rcases h2 with h2 | h2
        · exact byteOk_lo h2
        · exact byteOk_hi h2
      · rename_i h1 h2
        go_round
        case rel =>
          refine ⟨k + 1, by omega, by go_num, fun j hj hjk => ?_⟩
          by_cases e : j = k
          · subst e; exact byteOk_yes h2.1 h2.2
          · exact HA.out j hj (by omega)
        case measure => simp [intOf]; omega
      · go_ret
        rename_i h1
        exact ⟨ret_bool (plain_at hlt (byteOk_lo h1)).symm, rfl⟩
    · have hki : ¬ (k : Int) < (s.size : Int) := by omega
      go_wp2
      go_ret
      exact ⟨ret_bool (plain_all (fun j hj => HA.out j hj (by omega))).symm, rfl⟩

theorem bytesWorld_below (w : World) (e : TypeId) (s : ByteArray) : Below w.heap.size w (Lib.bytesWorld w e s) :=
  ⟨rfl, rfl, rfl, by rw [Lib.bytesWorld_size]; omega, fun k hk => Lib.bytesWorld_at_old w e s k hk⟩

set_option maxHeartbeats 1000000 in
theorem isData_any (s : ByteArray) (w : World) (hn : s.size ≤ maxLen) :
    Calls Tryz.prog 81 #[.string s] w fun e w' => e = .returned (.bool (plainB s 40)) ∧ Below w.heap.size w w' := by
  unfold maxLen at hn
  by_cases h40 : 40 < s.size
  · have h40' : (40 : Int) < (s.size : Int) := by omega
    go_enter Tryz.func81, Tryz.ntmps81
    go_wp2
    go_ret
    have : ¬ (s.size : Int) ≤ 40 := by omega
    exact ⟨ret_bool (by simp [plainB, this]), Below.refl _ _⟩
  · have h40' : (s.size : Int) ≤ 40 := by omega
    have kc := fun (w : World) (s : ByteArray) => Lib.run_convert_string_bytes (P := Tryz.prog) w 9 80 5 s Tryz.underlying9 Tryz.underlying80 Tryz.underlying5
    go_enter Tryz.func81, Tryz.ntmps81
    go_wp2_with fail
    have hB := bytesWorld_below w 5 s
    have hcell : ∀ (j : Nat) (hj : j < s.size), (Lib.bytesWorld w 5 s).cell? ⟨w.heap.size, j, none⟩ = some (.int .u8 (s[j].toNat : Int)) := fun j hj => by
      rw [Lib.bytesWorld_cell w 5 s j hj]
      have e : s.data.toList.getD j 0 = s[j] := by
        have hj' : j < s.data.toList.length := by simpa using hj
        rw [List.getD_eq_getElem?_getD, List.getElem?_eq_getElem hj']
        rfl
      rw [e]
    generalize Lib.bytesWorld w 5 s = W at *
    generalize grownCap w s.size 0 5 = cp at *
    go_loop [11] (fun i => ∃ k : Nat, k ≤ s.size ∧ i = .int .i64 k ∧ (∀ (j : Nat) (hj : j < s.size), j < k → byteOk s[j] = true)) (fun i => s.size - (intOf i).toNat)
    case atStart => exact ⟨0, Nat.zero_le _, rfl, fun j _ hj => by omega⟩
    case round =>
      obtain ⟨k, hk, rfl, hall⟩ := hrel
      have HA : Hid (∀ (j : Nat) (hj : j < s.size), j < k → byteOk s[j] = true) := hall
      clear hall
      by_cases hlt : k < s.size
      · have hki : (k : Int) < (s.size : Int) := by omega
        have hc := hcell k hlt
        clear hcell
        go_wp2
        · go_ret
          rename_i h1 h2 _
          refine ⟨ret_bool (plain_at hlt ?_).symm, hB⟩
          rcases h2 with h2 | h2
          · exact byteOk_lo h2
          · exact byteOk_hi h2
        · rename_i h1 h2
          go_round
          case rel =>
            refine ⟨k + 1, by omega, by go_num, fun j hj hjk => ?_⟩
            by_cases e : j = k
            · subst e; exact byteOk_yes h2.1 h2.2
            · exact HA.out j hj (by omega)
          case measure => simp [intOf]; omega
        · go_ret
          rename_i h1
          exact ⟨ret_bool (plain_at hlt (byteOk_lo h1)).symm, hB⟩
      · have hki : ¬ (k : Int) < (s.size : Int) := by omega
        clear hcell
        go_wp2
        go_ret
        exact ⟨ret_bool (by rw [plain_all (fun j hj => HA.out j hj (by omega))]; simpa using h40'), hB⟩
end Go.Proofs.YtjceaajnemgheaaGreatDoor
