/- FnKernelNew: the walk: the law answers true at every code that came in, and writes nothing that was there. -/
import Derived.Test.YtimacbpfnkephaaNX
import Derived.Test.YtimacbpfnkephaaKX7
import Derived.Test.YtimacbpfnkephaaKO3
import Derived.Test.YtimacbpfnkephaaZF
namespace Go.Proofs.Ytimacbpfnkephaa
open Go Go.RowKit Go.Deep Go.Maps

set_option maxRecDepth 100000 in
set_option maxHeartbeats 4000000 in
theorem drawNew_any (a : Option Addr) (n cap : Nat) (w : World) (hn : n ≤ 1048576) (hb : Rdr.BytesAt w a n) :
    Calls Try.prog 5 #[.slice a n cap] w fun e w' => ∃ x : Int, e = .returned (.int .i64 x) ∧ Below w.heap.size w w' := by
  have HB := hid hb
  clear hb
  go_enter Try.func5, Try.ntmps5
  go_wp2_with fail
  refine (Rdr.l1Open_any a n cap _ hn HB.out).mono ?_
  rintro e w1 ⟨rb, rfl, R1⟩
  have HR := hid R1
  clear R1
  go_wp2_with fail
  refine (Rdr.off_big _ rb a n cap 1 9 w1 (by omega) (by omega) HR.out).mono ?_
  rintro e w2 ⟨x, rfl, _, R2, g2⟩
  have B2 := R2.E
  clear R2 g2
  go_wp2
  go_ret
  exact ⟨x, rfl, B2⟩

theorem thrL_new {ta oa : Option Addr} {n tk ck i : Nat} (h1 : 1 ≤ n) (hn : n ≤ 9) (hi : i < n) : thrL (newK ta n tk oa ck) ((i : Int) + 1) = some i := by
  unfold thrL
  rw [if_pos (kerOk_new h1 hn)]
  exact findI_first (ids := fun j => ((newK ta n tk oa ck).T j).id) hi rfl fun j hj e => by
    have : ((j : Int) + 1) = (i : Int) + 1 := e
    omega
theorem objL_new {ta oa : Option Addr} {n tk ck : Nat} (h1 : 1 ≤ n) (hn : n ≤ 9) : objL (newK ta n tk oa ck) 1 = some 0 := by
  unfold objL
  rw [if_pos (kerOk_new h1 hn)]
  exact findI_first (ids := fun j => ((newK ta n tk oa ck).O j).id) (k := 0) (by show 0 < 1; omega) rfl fun j hj _ => by omega

set_option maxRecDepth 100000 in
set_option maxHeartbeats 8000000 in
theorem kernelNew_walk (a : Option Addr) (n cap : Nat) (w : World) (hb : 1048576 < n ∨ Rdr.BytesAt w a n) :
    Calls Try.prog 3 #[.slice a n cap] w fun e w' => e = .returned (.bool true) ∧ Below w.heap.size w w' := by
  have HB := hid hb
  clear hb
  go_enter Try.func3, Try.ntmps3
  go_wp2_with fail
  refine (Rdr.big_any a n cap w).mono ?_
  rintro e w' ⟨rfl, rfl⟩
  by_cases hbig : 1048576 < n
  · have d1 : decide (1048576 < n) = true := by simpa using hbig
    rw [d1]
    go_wp2
    go_ret
    exact ⟨rfl, Below.refl _ _⟩
  have d1 : decide (1048576 < n) = false := by simpa using hbig
  rw [d1]
  have C1 := hid (drawNew_any a n cap w' (by omega) (HB.out.resolve_left hbig))
  go_wp2_with fail
  refine C1.out.mono ?_
  rintro e w1 ⟨x, rfl, b1⟩
  clear C1 HB d1 hbig
  have C2 := hid (implNew_any x w1)
  unfold KPost at C2
  go_wp2_with fail
  refine C2.out.mono ?_
  rintro e w2 ⟨ta, tb, tk, oa, ob, ck, rfl, hT, hO, _, _, _, b2, hck⟩
  have B2 := then_ b1 b2
  have bX : Below w2.heap.size w2 (w2.alloc (.cells #[.slice ta (newN x) tk, .slice oa (newC x) ck] 28)) := (Below.refl _ w2).alloc (Nat.le_refl _) _
  have X2 := Blk.new w2 (.cells #[.slice ta (newN x) tk, .slice oa (newC x) ck] 28)
  have HT := hid (hT.below bX)
  have HO := hid (hO.below bX)
  have B3 := then_ B2 bX
  have HCK := hid hck
  have C3 := hid (specNew_any x (w2.alloc (.cells #[.slice ta (newN x) tk, .slice oa (newC x) ck] 28)))
  unfold KPost at C3
  clear C2 hT hO b2 hck bX B2
  go_wp2_with fail
  refine C3.out.mono ?_
  rintro e w4 ⟨ta', tb', tk', oa', ob', ck', rfl, _, _, _, _, _, b4, _⟩
  have bY : Below w4.heap.size w4 (w4.alloc (.cells #[.slice ta' (newN x) tk', .slice oa' (newC x) ck'] 28)) := (Below.refl _ w4).alloc (Nat.le_refl _) _
  have D5 := then_ b4 bY
  have X5 := X2.below D5
  have HT5 := hid (HT.out.below D5)
  have HO5 := hid (HO.out.below D5)
  have B5 := then_ B3 D5
  generalize hV5 : w4.alloc (.cells #[.slice ta' (newN x) tk', .slice oa' (newC x) ck'] 28) = V5 at *
  clear C3 b4 X2 HT HO B3 bY D5
  obtain ⟨x0, x1⟩ := X5.two
  by_cases hx : 1 ≤ x ∧ x ≤ 9
  rotate_left
  · have e1 : newN x = 0 := if_neg hx
    have e2 : newB x = false := by simp [newB]; omega
    rw [e1] at x0
    rw [e2]
    have x0' : V5.cell? ⟨w2.heap.size, 0, none⟩ = some (.slice ta 0 tk) := x0
    clear e1 e2 HT5 HO5 HCK hx
    go_wp2
    all_goals (first | rw [hV5] | skip)
    go_ret
    exact ⟨rfl, B5⟩
  obtain ⟨m, rfl⟩ := Int.eq_ofNat_of_zero_le (show 0 ≤ x by omega)
  have m1 : 1 ≤ m := by omega
  have m9 : m ≤ 9 := by omega
  have e1 : newN (m : Int) = m := by unfold newN; rw [if_pos hx]; omega
  have e2 : newB (m : Int) = true := by simp [newB]; omega
  have e3 : newC (m : Int) = 1 := if_pos hx
  have hck := HCK.out
  rw [e1] at HT5
  rw [e3] at HO5 hck
  rw [e1, e3] at X5
  have AT := hid (newK_at (tk := tk) (ck := ck) m9 HT5.out HO5.out)
  have SM := hid (newK_small (ta := ta) (oa := oa) (tk := tk) (ck := ck) m9)
  have OKK := hid (kerOk_new (ta := ta) (oa := oa) (tk := tk) (ck := ck) m1 m9)
  have WF : Hid (∀ i, i < (newK ta m tk oa ck).on → (Lit.int .i64 ((newK ta m tk oa ck).O i).id).wf = true ∧ (Lit.int .i64 ((newK ta m tk oa ck).O i).up).wf = true) := hid (fun _ _ => ⟨rfl, rfl⟩)
  have PO : Hid (∀ W, Below V5.heap.size V5 W → Calls Try.prog 8 #[.agg #[.slice ta m tk, .slice oa 1 ck], .int .i64 1] W fun e w' => ∃ g : ObjV, e = .returned (.tuple #[.agg #[.int .i64 g.id, .int .i64 g.kind, .int .i64 g.up, .int .i64 g.b1, .slice g.c1.a g.c1.n g.c1.k, .string g.data, .slice g.items.a g.items.n g.items.k, .slice g.own.a g.own.n g.own.k, .int .i64 g.b2, .slice g.c2.a g.c2.n g.c2.k], .bool true]) ∧ newO.same g ∧ g.c1.at w' ∧ Below W.heap.size W w') := hid (fun W hW => by
    have h := implObjectOf_any (newK ta m tk oa ck) 1 W (AT.out.below hW) SM.out hck WF.out rfl
    refine h.mono ?_
    rintro e w' ⟨g, rfl, hs, hn, _, hb⟩
    rw [objL_new m1 m9]
    have e : theO (newK ta m tk oa ck) 1 = newO := by unfold theO; rw [objL_new m1 m9]; rfl
    rw [e] at hs
    exact ⟨g, rfl, hs, hn.1.1, hb⟩)
  have PT : Hid (∀ (i : Nat) W, i < m → Below V5.heap.size V5 W → Calls Try.prog 9 #[.agg #[.slice ta m tk, .slice oa 1 ck], .int .i64 ((i : Int) + 1)] W fun e w' => ∃ g : ThrV, e = .returned (.tuple #[.agg #[.int .i64 g.id, .int .i64 g.b1, .slice g.c1.a g.c1.n g.c1.k, .int .i64 g.b2, .slice g.c2.a g.c2.n g.c2.k, .slice g.own.a g.own.n g.own.k, .int .i64 g.made], .bool true]) ∧ (newT i).same g ∧ g.at w' ∧ Below W.heap.size W w') := hid (fun i W hi hW => by
    have h := implThreadOf_any (newK ta m tk oa ck) ((i : Int) + 1) W (AT.out.below hW) SM.out hck WF.out
    refine h.mono ?_
    rintro e w' ⟨g, rfl, hs, hn, _, hb⟩
    rw [thrL_new m1 m9 hi]
    have e : theT (newK ta m tk oa ck) ((i : Int) + 1) = newT i := by unfold theT; rw [thrL_new m1 m9 hi]; rfl
    rw [e] at hs
    exact ⟨g, rfl, hs, ⟨hn.1.1, hn.2.1.1, hn.2.2.1⟩, hb⟩)
  have PK : Hid (∀ W, Below V5.heap.size V5 W → Calls Try.prog 11 #[.agg #[.slice ta m tk, .slice oa 1 ck]] W fun e w' => e = .returned (.bool true) ∧ Below W.heap.size W w') := hid (fun W hW => by
    have h := implKer_any (newK ta m tk oa ck) W (AT.out.below hW) hck WF.out
    rw [OKK.out] at h
    exact h)
  clear AT SM OKK WF HT5 HO5 HCK hck x0 x1 hx
  rw [e1, e3] at hV5
  rw [e1, e2]
  rw [e3]
  clear e1 e2 e3
  obtain ⟨x0, x1⟩ := X5.two
  go_wp2_with fail
  all_goals (first | rw [hV5] | skip)
  refine (PO.out V5 (Below.refl _ _)).mono ?_
  rintro e w6 ⟨g, rfl, gs, ga, b6⟩
  have bZ : Below w6.heap.size w6 (w6.alloc (.cells #[.int .i64 g.id, .int .i64 g.kind, .int .i64 g.up, .int .i64 g.b1, .slice g.c1.a g.c1.n g.c1.k, .string g.data, .slice g.items.a g.items.n g.items.k, .slice g.own.a g.own.n g.own.k, .int .i64 g.b2, .slice g.c2.a g.c2.n g.c2.k] 37)) := (Below.refl _ w6).alloc (Nat.le_refl _) _
  have D7 := then_ b6 bZ
  have X7 := X5.below D7
  have Z7 := Blk.new w6 (.cells #[.int .i64 g.id, .int .i64 g.kind, .int .i64 g.up, .int .i64 g.b1, .slice g.c1.a g.c1.n g.c1.k, .string g.data, .slice g.items.a g.items.n g.items.k, .slice g.own.a g.own.n g.own.k, .int .i64 g.b2, .slice g.c2.a g.c2.n g.c2.k] 37)
  have GA := hid (ga.below bZ)
  have GS := hid gs
  generalize hV7 : w6.alloc (.cells #[.int .i64 g.id, .int .i64 g.kind, .int .i64 g.up, .int .i64 g.b1, .slice g.c1.a g.c1.n g.c1.k, .string g.data, .slice g.items.a g.items.n g.items.k, .slice g.own.a g.own.n g.own.k, .int .i64 g.b2, .slice g.c2.a g.c2.n g.c2.k] 37) = V7 at *
  clear gs ga b6 bZ X5 x0 x1 PO
  have HV7 := hid hV7
  clear hV7
  go_wp2
  go_loopw [10] (fun i wr => ∃ q : Nat, q ≤ m ∧ i = .int .i64 ((q : Int) + 1) ∧ Blk wr w2.heap.size (.cells #[.slice ta m tk, .slice oa 1 ck] 28) ∧ Blk wr w6.heap.size (.cells #[.int .i64 g.id, .int .i64 g.kind, .int .i64 g.up, .int .i64 g.b1, .slice g.c1.a g.c1.n g.c1.k, .string g.data, .slice g.items.a g.items.n g.items.k, .slice g.own.a g.own.n g.own.k, .int .i64 g.b2, .slice g.c2.a g.c2.n g.c2.k] 37) ∧ Below V7.heap.size V7 wr) (fun i _ => m + 1 - (intOf i).toNat)
  case atStart =>
    first
      | exact ⟨0, Nat.zero_le _, rfl, X7, Z7, Below.refl _ _⟩
      | (rw [HV7.out]; exact ⟨0, Nat.zero_le _, rfl, X7, Z7, Below.refl _ _⟩)
  case round =>
    clear X7 Z7
    obtain ⟨q, hq, rfl, X, Z, hB⟩ := hrel
    have DD := then_ D7 hB
    have BB := then_ B5 DD
    obtain ⟨x0, x1⟩ := X.two
    by_cases hlt : q < m
    · have i1 : (q : Int) + 1 ≤ (m : Int) := by omega
      go_wp2_with fail
      refine (PT.out q wr hlt DD).mono ?_
      rintro e w8 ⟨t, rfl, ts, tat, b8⟩
      have bT : Below w8.heap.size w8 (w8.alloc (.cells #[.int .i64 t.id, .int .i64 t.b1, .slice t.c1.a t.c1.n t.c1.k, .int .i64 t.b2, .slice t.c2.a t.c2.n t.c2.k, .slice t.own.a t.own.n t.own.k, .int .i64 t.made] 41)) := (Below.refl _ w8).alloc (Nat.le_refl _) _
      have D9 := then_ b8 bT
      have X9 := X.below D9
      have Z9 := Z.below D9
      have T9 := Blk.new w8 (.cells #[.int .i64 t.id, .int .i64 t.b1, .slice t.c1.a t.c1.n t.c1.k, .int .i64 t.b2, .slice t.c2.a t.c2.n t.c2.k, .slice t.own.a t.own.n t.own.k, .int .i64 t.made] 41)
      have tat9 := tat.below bT
      have ga9 := (GA.out.below hB).below D9
      have CH := hid (implChanges_any t.id t.made t.b1 t.c1.a t.c1.n t.c1.k t.c1.f t.c1.g t.b2 t.c2.a t.c2.n t.c2.k t.c2.f t.c2.g t.own.a t.own.n t.own.k t.own.h g.b1 g.c1.a g.c1.n g.c1.k g.c1.f g.c1.g _ tat9.1.1 tat9.2.1.1 tat9.2.2.1 tat9.1.2 tat9.2.1.2 tat9.2.2.2 ga9.1 ga9.2)
      have CB : changesB t.id t.made t.b1 t.c1.n t.c1.f t.c1.g t.b2 t.c2.n t.c2.f t.c2.g t.own.n t.own.h g.b1 g.c1.n g.c1.f g.c1.g = true := by
        rw [ts.1, ts.2.1, ts.2.2.1.1, ts.2.2.1.2.1, ts.2.2.1.2.2, ts.2.2.2.1, ts.2.2.2.2.1.1, ts.2.2.2.2.1.2.1, ts.2.2.2.2.1.2.2, ts.2.2.2.2.2.1.1, ts.2.2.2.2.2.1.2, ts.2.2.2.2.2.2, GS.out.2.2.2.1, GS.out.2.2.2.2.1.1, GS.out.2.2.2.2.1.2.1, GS.out.2.2.2.2.1.2.2]
        exact changes_new (by omega)
      rw [CB] at CH
      have on0 : Hid (t.own.n = 0) := hid ts.2.2.2.2.2.1.1
      have B9 := then_ hB D9
      clear ts tat tat9 ga9 b8 CB D9 bT x0 x1
      obtain ⟨z0, z1, z2, z3, z4, z5, z6, z7, z8, z9⟩ := Z9.ten
      obtain ⟨t0, t1, t2, t3, t4, t5, t6⟩ := T9.seven
      go_wp2_with fail
      refine CH.out.mono ?_
      rintro e w10 ⟨rfl, b10⟩
      have X10 := X9.below b10
      have Z10 := Z9.below b10
      have T10 := T9.below b10
      have B10 := then_ B9 b10
      clear z0 z1 z2 z3 z4 z5 z6 z7 z8 z9 t0 t1 t2 t3 t4 t5 t6 CH X9 Z9 T9 B9 b10 Z
      obtain ⟨t0, t1, t2, t3, t4, t5, t6⟩ := T10.seven
      rw [on0.out] at t5
      go_wp2
      exact ⟨⟨q + 1, by omega, by go_num, X10, Z10, B10⟩, by simp [intOf]; omega⟩
    · have i1 : ¬ (q : Int) + 1 ≤ (m : Int) := by omega
      go_wp2_with fail
      refine (PK.out wr DD).mono ?_
      rintro e w8 ⟨rfl, b8⟩
      have X8 := X.below b8
      have B8 := then_ BB b8
      clear x0 x1 b8
      obtain ⟨x0, x1⟩ := X8.two
      go_wp2
      go_ret
      exact ⟨rfl, B8⟩
end Go.Proofs.Ytimacbpfnkephaa
