/- Kernels as they lie in memory: objects, rows of objects and kernels that are the same compare equal. -/
import Derived.Test.YtonpoakimpoojaaKA9
namespace Go.Proofs.Ytonpoakimpoojaa
open Go.RowKit Go.Deep

def ObjV.blk (t : ObjV) : Obj := .cells #[.int .i64 t.id, .int .i64 t.kind, .int .i64 t.up, .int .i64 t.b1, t.c1.val, .string t.data, t.items.val, t.own.val, .int .i64 t.b2, t.c2.val] 41
theorem eqLabel_v (b : Int) (c d : CatL) (w : World) (hc : c.at w) (hd : d.at w) (h : c.same d) :
    Calls Try.prog 49 #[.agg #[.int .i64 b, c.val], .agg #[.int .i64 b, d.val]] w fun e w' => e = .returned (.bool true) ∧ Below w.heap.size w w' := by
  obtain ⟨a, n, k, f, g⟩ := c
  obtain ⟨a', n', k', f', g'⟩ := d
  obtain ⟨e1, e2, e3⟩ := h
  simp only at e1 e2 e3
  subst e1 e2 e3
  exact eqLabel_true _ _ _ _ _ _ f' g' w hc.1 hc.2 hd.2
theorem eqStr_v (c d : StrL) (w : World) (hc : c.at w) (hd : d.at w) (h : c.same d) :
    Calls Try.prog 50 #[c.val, d.val] w fun e w' => e = .returned (.bool true) ∧ Below w.heap.size w w' := by
  obtain ⟨a, n, k, f⟩ := c
  obtain ⟨a', n', k', f'⟩ := d
  obtain ⟨e1, e2⟩ := h
  simp only at e1 e2
  subst e1 e2
  exact eqStringS_true _ _ _ _ _ f' w hc.1 hc.2.1 hd.2.1
theorem eqInt_v (c d : IntL) (w : World) (hc : c.at w) (hd : d.at w) (h : c.same d) :
    Calls Try.prog 26 #[c.val, d.val] w fun e w' => e = .returned (.bool true) ∧ Below w.heap.size w w' := by
  obtain ⟨a, n, k, f⟩ := c
  obtain ⟨a', n', k', f'⟩ := d
  obtain ⟨e1, e2⟩ := h
  simp only at e1 e2
  subst e1 e2
  exact eqInt64S_true _ _ _ _ _ f' w hc.1 hc.2 hd.2

set_option maxRecDepth 100000 in
set_option maxHeartbeats 2000000 in
theorem eqObject_v (t u : ObjV) (w : World) (ht : t.at w) (hu : u.at w) (h : t.same u) :
    Calls Try.prog 15 #[t.val, u.val] w fun e w' => e = .returned (.bool true) ∧ Below w.heap.size w w' := by
  obtain ⟨h1, h2, h3, h4, s1, h5, s2, s3, h6, s4⟩ := h
  obtain ⟨ui, uk, uu, ub1, uc1, ud, uit, uo, ub2, uc2⟩ := u
  simp only at h1 h2 h3 h4 h5 h6 s1 s2 s3 s4
  subst h1 h2 h3 h4 h5 h6
  have B0 := hid (((Below.refl _ w).alloc (Nat.le_refl _) t.blk).alloc (by simp) (.cells #[.int .i64 t.id, .int .i64 t.kind, .int .i64 t.up, .int .i64 t.b1, uc1.val, .string t.data, uit.val, uo.val, .int .i64 t.b2, uc2.val] 41))
  have P0 := hid ((Blk.new w t.blk).alloc (.cells #[.int .i64 t.id, .int .i64 t.kind, .int .i64 t.up, .int .i64 t.b1, uc1.val, .string t.data, uit.val, uo.val, .int .i64 t.b2, uc2.val] 41))
  have Q0 : Hid (Blk ((w.alloc t.blk).alloc (.cells #[.int .i64 t.id, .int .i64 t.kind, .int .i64 t.up, .int .i64 t.b1, uc1.val, .string t.data, uit.val, uo.val, .int .i64 t.b2, uc2.val] 41)) (w.heap.size + 1) (.cells #[.int .i64 t.id, .int .i64 t.kind, .int .i64 t.up, .int .i64 t.b1, uc1.val, .string t.data, uit.val, uo.val, .int .i64 t.b2, uc2.val] 41)) := by
    have := Blk.new (w.alloc t.blk) (.cells #[.int .i64 t.id, .int .i64 t.kind, .int .i64 t.up, .int .i64 t.b1, uc1.val, .string t.data, uit.val, uo.val, .int .i64 t.b2, uc2.val] 41)
    refine hid ?_
    simpa using this
  have T := hid ht
  have U := hid hu
  have E1 : Hid (∀ W, Below w.heap.size w W → Calls Try.prog 49 #[.agg #[.int .i64 t.b1, t.c1.val], .agg #[.int .i64 t.b1, uc1.val]] W fun e w' => e = .returned (.bool true) ∧ Below W.heap.size W w') := hid (fun W hW => eqLabel_v _ _ _ W (T.out.1.below hW) (U.out.1.below hW) s1)
  have E2 : Hid (∀ W, Below w.heap.size w W → Calls Try.prog 50 #[t.items.val, uit.val] W fun e w' => e = .returned (.bool true) ∧ Below W.heap.size W w') := hid (fun W hW => eqStr_v _ _ W (T.out.2.1.below hW) (U.out.2.1.below hW) s2)
  have E3 : Hid (∀ W, Below w.heap.size w W → Calls Try.prog 26 #[t.own.val, uo.val] W fun e w' => e = .returned (.bool true) ∧ Below W.heap.size W w') := hid (fun W hW => eqInt_v _ _ W (T.out.2.2.1.below hW) (U.out.2.2.1.below hW) s3)
  have E4 : Hid (∀ W, Below w.heap.size w W → Calls Try.prog 49 #[.agg #[.int .i64 t.b2, t.c2.val], .agg #[.int .i64 t.b2, uc2.val]] W fun e w' => e = .returned (.bool true) ∧ Below W.heap.size W w') := hid (fun W hW => eqLabel_v _ _ _ W (T.out.2.2.2.1.below hW) (U.out.2.2.2.1.below hW) s4)
  unfold ObjV.val
  unfold ObjV.blk at B0 P0 Q0
  simp only
  clear ht hu s1 s2 s3 s4
  go_enter Try.func15, Try.ntmps15
  go_wp2_with fail
  refine (E1.out _ B0.out).mono ?_
  rintro e w1 ⟨rfl, hb1⟩
  have P1 := hid (P0.out.below hb1)
  have Q1 := hid (Q0.out.below hb1)
  have B1 := hid (then_ B0.out hb1)
  clear P0 Q0 B0 hb1
  obtain ⟨p0, p1, p2, p3, p4, p5, p6, p7, p8, p9⟩ := P1.out.ten
  obtain ⟨q0, q1, q2, q3, q4, q5, q6, q7, q8, q9⟩ := Q1.out.ten
  go_wp2_with fail
  refine (E2.out _ B1.out).mono ?_
  rintro e w2 ⟨rfl, hb2⟩
  have P2 := hid (P1.out.below hb2)
  have Q2 := hid (Q1.out.below hb2)
  have B2 := hid (then_ B1.out hb2)
  clear p0 p1 p2 p3 p4 p5 p6 p7 p8 p9 q0 q1 q2 q3 q4 q5 q6 q7 q8 q9 P1 Q1 B1 hb2
  obtain ⟨p0, p1, p2, p3, p4, p5, p6, p7, p8, p9⟩ := P2.out.ten
  obtain ⟨q0, q1, q2, q3, q4, q5, q6, q7, q8, q9⟩ := Q2.out.ten
  go_wp2_with fail
  refine (E3.out _ B2.out).mono ?_
  rintro e w3 ⟨rfl, hb3⟩
  have P3 := hid (P2.out.below hb3)
  have Q3 := hid (Q2.out.below hb3)
  have B3 := hid (then_ B2.out hb3)
  clear p0 p1 p2 p3 p4 p5 p6 p7 p8 p9 q0 q1 q2 q3 q4 q5 q6 q7 q8 q9 P2 Q2 B2 hb3
  obtain ⟨p0, p1, p2, p3, p4, p5, p6, p7, p8, p9⟩ := P3.out.ten
  obtain ⟨q0, q1, q2, q3, q4, q5, q6, q7, q8, q9⟩ := Q3.out.ten
  go_wp2_with fail
  refine (E4.out _ B3.out).mono ?_
  rintro e w4 ⟨rfl, hb4⟩
  have B4 := then_ B3.out hb4
  clear p0 p1 p2 p3 p4 p5 p6 p7 p8 p9 q0 q1 q2 q3 q4 q5 q6 q7 q8 q9 P3 Q3 B3 hb4
  go_wp2
  go_ret
  exact ⟨rfl, B4⟩
set_option maxRecDepth 100000 in
set_option maxHeartbeats 2000000 in
theorem eqObjectS_any (a a' : Option Addr) (n cap cap' : Nat) (T U : Nat → ObjV) (w : World) (hn : n ≤ maxLen) (hT : ObjsAt w a n T) (hU : ObjsAt w a' n U) (hs : ∀ i, i < n → (T i).same (U i)) :
    Calls Try.prog 45 #[.slice a n cap, .slice a' n cap'] w fun e w' => e = .returned (.bool true) ∧ Below w.heap.size w w' := by
  unfold maxLen at hn
  have HT := hid hT
  have HU := hid hU
  have HS := hid hs
  clear hT hU hs
  go_enter Try.func45, Try.ntmps45
  go_wp2
  go_loopw [5] (fun i wr => ∃ k : Nat, k ≤ n ∧ i = .int .i64 k ∧ Below w.heap.size w wr) (fun i _ => n - (intOf i).toNat)
  case atStart => exact ⟨0, Nat.zero_le _, rfl, Below.refl _ _⟩
  case round =>
    obtain ⟨k, hk, rfl, hB⟩ := hrel
    by_cases hlt' : k < n
    · obtain ⟨b, off, rfl, hl1, hc⟩ := HT.out.below hB (by omega)
      obtain ⟨b', off', rfl, hl2, hc'⟩ := HU.out.below hB (by omega)
      obtain ⟨q, qa⟩ := hc k hlt'
      obtain ⟨r, ra⟩ := hc' k hlt'
      have Q := hid (show Cells10 wr.drew b (off + k * 10) (T k) from ⟨q.c0, q.c1, q.c2, q.c3, q.c4, q.c5, q.c6, q.c7, q.c8, q.c9⟩)
      have R := hid (show Cells10 wr.drew b' (off' + k * 10) (U k) from ⟨r.c0, r.c1, r.c2, r.c3, r.c4, r.c5, r.c6, r.c7, r.c8, r.c9⟩)
      have EQ := hid (eqObject_v (T k) (U k) wr.drew (qa.below (Below.refl _ wr).drew) (ra.below (Below.refl _ wr).drew) (HS.out k hlt'))
      unfold ObjV.val at EQ
      obtain ⟨g0, g1, g2, g3, g4, g5, g6, g7, g8, g9⟩ := q
      obtain ⟨h0, h1, h2, h3, h4, h5, h6, h7, h8, h9⟩ := r
      have i0 : (0 : Int) ≤ (k : Int) := by omega
      have i1 : (k : Int) < (n : Int) := by omega
      have hl1' : b < wr.drew.heap.size := hl1
      have hl2' : b' < wr.drew.heap.size := hl2
      clear hc hc' qa ra
      go_wp2_with fail
      go_region_held3 (fun w' => w'.cell? ⟨b, off + k * 10, none⟩ = some (.int .i64 (T k).id) ∧ w'.cell? ⟨b, off + k * 10 + 1, none⟩ = some (.int .i64 (T k).kind) ∧ w'.cell? ⟨b, off + k * 10 + 2, none⟩ = some (.int .i64 (T k).up) ∧ w'.cell? ⟨b, off + k * 10 + 3, none⟩ = some (.int .i64 (T k).b1) ∧ w'.cell? ⟨b, off + k * 10 + 4, none⟩ = some ((T k).c1.val) ∧ w'.cell? ⟨b, off + k * 10 + 5, none⟩ = some (.string (T k).data) ∧ w'.cell? ⟨b, off + k * 10 + 6, none⟩ = some ((T k).items.val) ∧ w'.cell? ⟨b, off + k * 10 + 7, none⟩ = some ((T k).own.val) ∧ w'.cell? ⟨b, off + k * 10 + 8, none⟩ = some (.int .i64 (T k).b2) ∧ w'.cell? ⟨b, off + k * 10 + 9, none⟩ = some ((T k).c2.val) ∧ w'.cell? ⟨b', off' + k * 10, none⟩ = some (.int .i64 (U k).id) ∧ w'.cell? ⟨b', off' + k * 10 + 1, none⟩ = some (.int .i64 (U k).kind) ∧ w'.cell? ⟨b', off' + k * 10 + 2, none⟩ = some (.int .i64 (U k).up) ∧ w'.cell? ⟨b', off' + k * 10 + 3, none⟩ = some (.int .i64 (U k).b1) ∧ w'.cell? ⟨b', off' + k * 10 + 4, none⟩ = some ((U k).c1.val) ∧ w'.cell? ⟨b', off' + k * 10 + 5, none⟩ = some (.string (U k).data) ∧ w'.cell? ⟨b', off' + k * 10 + 6, none⟩ = some ((U k).items.val) ∧ w'.cell? ⟨b', off' + k * 10 + 7, none⟩ = some ((U k).own.val) ∧ w'.cell? ⟨b', off' + k * 10 + 8, none⟩ = some (.int .i64 (U k).b2) ∧ w'.cell? ⟨b', off' + k * 10 + 9, none⟩ = some ((U k).c2.val)) (go_keep)
        (first | (go_at_call 15; refine EQ.out.mono ?_; rintro e w1 ⟨rfl, hb1⟩; obtain ⟨p0, p1, p2, p3, p4, p5, p6, p7, p8, p9⟩ := Q.out.below hl1' hb1; obtain ⟨q0, q1, q2, q3, q4, q5, q6, q7, q8, q9⟩ := R.out.below hl2' hb1))
      have hB1 : Below w.heap.size w w1 := hB.drew.trans (hb1.mono hB.size)
      clear g0 g1 g2 g3 g4 g5 g6 g7 g8 g9 h0 h1 h2 h3 h4 h5 h6 h7 h8 h9 p0 p1 p2 p3 p4 p5 p6 p7 p8 p9 q0 q1 q2 q3 q4 q5 q6 q7 q8 q9 hb1
      go_wp2
      go_roundw
      case rel => exact ⟨k + 1, by omega, by go_num, hB1⟩
      case measure => simp [intOf]; omega
    · go_wp2
      go_ret
      exact ⟨rfl, hB⟩
end Go.Proofs.Ytonpoakimpoojaa
