/- Kernels as they lie in memory: objects, each with lists of its own; the budget of a kernel. -/
import Derived.Test.YtonpoakimpoojaaKA1
namespace Go.Proofs.Ytonpoakimpoojaa
open Go.RowKit Go.Deep

def StrAt (w : World) (a : Option Addr) (n : Nat) (f : Nat → ByteArray) : Prop := 0 < n → ∃ b off, a = some ⟨b, off, none⟩ ∧ b < w.heap.size ∧ ∀ i, i < n → w.cell? ⟨b, off + i, none⟩ = some (.string (f i))
theorem StrAt.below {w w' : World} {a : Option Addr} {n : Nat} {f : Nat → ByteArray} (h : StrAt w a n f) (hb : Below w.heap.size w w') : StrAt w' a n f := fun hn => by
  obtain ⟨b, off, e, hlt, hc⟩ := h hn
  exact ⟨b, off, e, Nat.lt_of_lt_of_le hlt hb.size, fun i hi => (hb.cell (p := ⟨b, off + i, none⟩) hlt).trans (hc i hi)⟩
structure StrL where
  a : Option Addr
  n : Nat
  k : Nat
  f : Nat → ByteArray
def StrL.at (w : World) (c : StrL) : Prop := c.n ≤ maxLen ∧ StrAt w c.a c.n c.f ∧ ∀ i, i < c.n → (c.f i).size ≤ maxLen
def StrL.val (c : StrL) : Value := .slice c.a c.n c.k
theorem StrL.at.below {w w' : World} {c : StrL} (h : c.at w) (hb : Below w.heap.size w w') : c.at w' := ⟨h.1, h.2.1.below hb, h.2.2⟩
def StrL.small (c : StrL) : Prop := c.n ≤ 1048576 ∧ ∀ i, i < c.n → (c.f i).size ≤ 1048576
/-- an object -/
structure ObjV where
  id : Int
  kind : Int
  up : Int
  b1 : Int
  c1 : CatL
  data : ByteArray
  items : StrL
  own : IntL
  b2 : Int
  c2 : CatL
def ObjV.val (t : ObjV) : Value := .agg #[.int .i64 t.id, .int .i64 t.kind, .int .i64 t.up, .int .i64 t.b1, t.c1.val, .string t.data, t.items.val, t.own.val, .int .i64 t.b2, t.c2.val]
def ObjV.at (w : World) (t : ObjV) : Prop := t.c1.at w ∧ t.items.at w ∧ t.own.at w ∧ t.c2.at w ∧ t.data.size ≤ maxLen
theorem ObjV.at.below {w w' : World} {t : ObjV} (h : t.at w) (hb : Below w.heap.size w w') : t.at w' := ⟨h.1.below hb, h.2.1.below hb, h.2.2.1.below hb, h.2.2.2.1.below hb, h.2.2.2.2⟩
def ObjV.small (t : ObjV) : Prop := t.c1.n ≤ 1048576 ∧ t.data.size ≤ 1048576 ∧ t.items.small ∧ t.own.n ≤ 1048576 ∧ t.c2.n ≤ 1048576
structure Cells10 (w : World) (b o : Nat) (t : ObjV) : Prop where
  c0 : w.cell? ⟨b, o, none⟩ = some (.int .i64 t.id)
  c1 : w.cell? ⟨b, o + 1, none⟩ = some (.int .i64 t.kind)
  c2 : w.cell? ⟨b, o + 2, none⟩ = some (.int .i64 t.up)
  c3 : w.cell? ⟨b, o + 3, none⟩ = some (.int .i64 t.b1)
  c4 : w.cell? ⟨b, o + 4, none⟩ = some t.c1.val
  c5 : w.cell? ⟨b, o + 5, none⟩ = some (.string t.data)
  c6 : w.cell? ⟨b, o + 6, none⟩ = some t.items.val
  c7 : w.cell? ⟨b, o + 7, none⟩ = some t.own.val
  c8 : w.cell? ⟨b, o + 8, none⟩ = some (.int .i64 t.b2)
  c9 : w.cell? ⟨b, o + 9, none⟩ = some t.c2.val
theorem Cells10.below {w w' : World} {b o : Nat} {t : ObjV} (h : Cells10 w b o t) (hl : b < w.heap.size) (hb : Below w.heap.size w w') : Cells10 w' b o t :=
  ⟨(hb.cell (p := ⟨b, o, none⟩) hl).trans h.c0, (hb.cell (p := ⟨b, o + 1, none⟩) hl).trans h.c1, (hb.cell (p := ⟨b, o + 2, none⟩) hl).trans h.c2, (hb.cell (p := ⟨b, o + 3, none⟩) hl).trans h.c3, (hb.cell (p := ⟨b, o + 4, none⟩) hl).trans h.c4, (hb.cell (p := ⟨b, o + 5, none⟩) hl).trans h.c5, (hb.cell (p := ⟨b, o + 6, none⟩) hl).trans h.c6, (hb.cell (p := ⟨b, o + 7, none⟩) hl).trans h.c7, (hb.cell (p := ⟨b, o + 8, none⟩) hl).trans h.c8, (hb.cell (p := ⟨b, o + 9, none⟩) hl).trans h.c9⟩
def ObjsAt (w : World) (a : Option Addr) (n : Nat) (T : Nat → ObjV) : Prop :=
  0 < n → ∃ b off, a = some ⟨b, off, none⟩ ∧ b < w.heap.size ∧ ∀ i, i < n → Cells10 w b (off + i * 10) (T i) ∧ (T i).at w
theorem ObjsAt.below {w w' : World} {a : Option Addr} {n : Nat} {T : Nat → ObjV} (h : ObjsAt w a n T) (hb : Below w.heap.size w w') : ObjsAt w' a n T := fun hn => by
  obtain ⟨b, off, e, hlt, hc⟩ := h hn
  exact ⟨b, off, e, Nat.lt_of_lt_of_le hlt hb.size, fun i hi => ⟨(hc i hi).1.below hlt hb, (hc i hi).2.below hb⟩⟩

set_option maxRecDepth 100000 in
set_option maxHeartbeats 2000000 in
theorem szStringS_any (c : StrL) (left : Int) (w : World) (h0 : 0 ≤ left) (h1 : left ≤ 1048576) (hT : c.at w) :
    Calls Try.prog 87 #[c.val, .int .i64 left] w fun e w' => ∃ r : Int, e = .returned (.int .i64 r) ∧ (r = -1 ∨ (0 ≤ r ∧ r ≤ left ∧ c.small)) ∧ w' = w := by
  obtain ⟨hn, HC, HZ⟩ := hT
  obtain ⟨a, n, cap, f⟩ := c
  simp only at hn HC HZ
  unfold StrL.val
  simp only
  unfold maxLen at hn HZ
  have HT := hid HC
  have HZ' := hid HZ
  clear HC HZ
  have d1 : IntKind.i64.wrap (left - (n : Int)) = left - (n : Int) := by rw [IntKind.wrap_i64]; omega
  by_cases hbig : left < n
  · have d2 : left - (n : Int) < 0 := by omega
    go_enter Try.func87, Try.ntmps87
    go_wp2
    go_ret
    exact ⟨_, rfl, .inl rfl, rfl⟩
  · have d2 : ¬ left - (n : Int) < 0 := by omega
    have hn2 : n ≤ 1048576 := by omega
    go_enter Try.func87, Try.ntmps87
    go_wp2
    go_loop [1, 5] (fun l i => ∃ (k : Nat) (m : Int), k ≤ n ∧ i = .int .i64 k ∧ l = .int .i64 m ∧ 0 ≤ m ∧ m ≤ left ∧ Hid (∀ j, j < k → (f j).size ≤ 1048576)) (fun _ i => n - (intOf i).toNat)
    case atStart => exact ⟨0, _, by omega, rfl, rfl, by omega, by omega, hid (fun j hj => by omega)⟩
    case round =>
      obtain ⟨k, m, hk, rfl, rfl, m0, m1, HS⟩ := hrel
      by_cases hlt : k < n
      · obtain ⟨b, off, rfl, hlt0, hc⟩ := HT.out (by omega)
        have q0 := hc k hlt
        have i1 : (k : Int) < (n : Int) := by omega
        have z := HZ'.out k hlt
        have d3 : IntKind.i64.wrap (m - ((f k).size : Int)) = m - ((f k).size : Int) := by rw [IntKind.wrap_i64]; omega
        clear hc
        by_cases hneg : m - ((f k).size : Int) < 0
        · go_wp2
          go_ret
          exact ⟨_, rfl, .inl rfl, rfl⟩
        · have HS2 : Hid (∀ j, j < k + 1 → (f j).size ≤ 1048576) := hid (fun j hj => by
            by_cases e : j = k
            · subst e; omega
            · exact HS.out j (by omega))
          go_wp2
          exact ⟨⟨k + 1, _, by omega, by go_num, rfl, by omega, by omega, HS2⟩, by simp [intOf]; omega⟩
      · go_wp2
        go_ret
        exact ⟨_, rfl, .inr ⟨m0, by omega, (⟨hn2, fun i (hi : i < n) => HS.out i (by omega)⟩ : StrL.small ⟨a, n, cap, f⟩)⟩, rfl⟩

theorem szLabel_v (b : Int) (c : CatL) (left : Int) (w : World) (hc : c.at w) (h0 : 0 ≤ left) (h1 : left ≤ 1048576) :
    Calls Try.prog 85 #[.agg #[.int .i64 b, c.val], .int .i64 left] w fun e w' => ∃ r : Int, e = .returned (.int .i64 r) ∧ (r = -1 ∨ (0 ≤ r ∧ r ≤ left ∧ c.n ≤ 1048576)) ∧ Below w.heap.size w w' :=
  (szLabel_any b c.a c.n c.k left w hc.1 h0 h1).mono fun _ _ ⟨he, hb⟩ => ⟨_, he, szOf_cases c.n left h0 h1, hb⟩
theorem szInt64S_v (c : IntL) (left : Int) (w : World) (hc : c.at w) (h0 : 0 ≤ left) (h1 : left ≤ 1048576) :
    Calls Try.prog 86 #[c.val, .int .i64 left] w fun e w' => ∃ r : Int, e = .returned (.int .i64 r) ∧ (r = -1 ∨ (0 ≤ r ∧ r ≤ left ∧ c.n ≤ 1048576)) ∧ w' = w :=
  (szInt64S_any c.a c.n c.k left w hc.1 h0 h1).mono fun _ _ ⟨he, hb⟩ => ⟨_, he, szOf_cases c.n left h0 h1, hb⟩
theorem Blk.ten {W : World} {P t : Nat} {x0 x1 x2 x3 x4 x5 x6 x7 x8 x9 : Value} (h : Blk W P (.cells #[x0, x1, x2, x3, x4, x5, x6, x7, x8, x9] t)) : W.cell? ⟨P, 0, none⟩ = some x0 ∧ W.cell? ⟨P, 1, none⟩ = some x1 ∧ W.cell? ⟨P, 2, none⟩ = some x2 ∧ W.cell? ⟨P, 3, none⟩ = some x3 ∧ W.cell? ⟨P, 4, none⟩ = some x4 ∧ W.cell? ⟨P, 5, none⟩ = some x5 ∧ W.cell? ⟨P, 6, none⟩ = some x6 ∧ W.cell? ⟨P, 7, none⟩ = some x7 ∧ W.cell? ⟨P, 8, none⟩ = some x8 ∧ W.cell? ⟨P, 9, none⟩ = some x9 := by
  unfold Blk at h
  simp [World.cell?, h]
def ObjV.cells (t : ObjV) : Array Value := #[.int .i64 t.id, .int .i64 t.kind, .int .i64 t.up, .int .i64 t.b1, t.c1.val, .string t.data, t.items.val, t.own.val, .int .i64 t.b2, t.c2.val]

set_option maxRecDepth 100000 in
set_option maxHeartbeats 2000000 in
theorem szObject_any (t : ObjV) (left : Int) (w : World) (h0 : 0 ≤ left) (h1 : left ≤ 1048576) (ht : t.at w) :
    Calls Try.prog 64 #[t.val, .int .i64 left] w fun e w' => ∃ r : Int, e = .returned (.int .i64 r) ∧ (r = -1 ∨ (0 ≤ r ∧ r ≤ left ∧ t.small)) ∧ Below w.heap.size w w' := by
  have hb0 := (Below.refl _ w).alloc (Nat.le_refl _) (.cells #[.int .i64 t.id, .int .i64 t.kind, .int .i64 t.up, .int .i64 t.b1, t.c1.val, .string t.data, t.items.val, t.own.val, .int .i64 t.b2, t.c2.val] 93)
  have A0 := Blk.new w (.cells #[.int .i64 t.id, .int .i64 t.kind, .int .i64 t.up, .int .i64 t.b1, t.c1.val, .string t.data, t.items.val, t.own.val, .int .i64 t.b2, t.c2.val] 93)
  have hdz := ht.2.2.2.2
  unfold maxLen at hdz
  have T0 := hid (ht.below hb0)
  unfold ObjV.val
  obtain ⟨x0, x1, x2, x3, x4, x5, x6, x7, x8, x9⟩ := A0.ten
  clear ht
  go_enter Try.func64, Try.ntmps64
  go_wp2_with fail
  refine (szLabel_v _ t.c1 _ _ T0.out.1 h0 h1).mono ?_
  rintro e w1 ⟨r1, rfl, hr1, hb1⟩
  have A1 := A0.below hb1
  have T1 := hid (T0.out.below hb1)
  have B1 := then_ hb0 hb1
  clear x0 x1 x2 x3 x4 x5 x6 x7 x8 x9 A0 T0 hb0 hb1
  obtain ⟨x0, x1, x2, x3, x4, x5, x6, x7, x8, x9⟩ := A1.ten
  rcases hr1 with rfl | ⟨u1, v1, s1⟩
  · go_wp2
    go_ret
    exact ⟨_, rfl, .inl rfl, B1⟩
  have n1 : ¬ r1 < 0 := by omega
  have d1 : IntKind.i64.wrap (r1 - (t.data.size : Int)) = r1 - (t.data.size : Int) := by rw [IntKind.wrap_i64]; omega
  by_cases hneg : r1 - (t.data.size : Int) < 0
  · go_wp2
    go_ret
    exact ⟨_, rfl, .inl rfl, B1⟩
  go_wp2_with fail
  refine (szStringS_any t.items _ _ (by omega) (by omega) T1.out.2.1).mono ?_
  rintro e w2 ⟨r2, rfl, hr2, rfl⟩
  rcases hr2 with rfl | ⟨u2, v2, s2⟩
  · go_wp2
    go_ret
    exact ⟨_, rfl, .inl rfl, B1⟩
  have n2 : ¬ r2 < 0 := by omega
  go_wp2_with fail
  refine (szInt64S_v t.own _ _ T1.out.2.2.1 u2 (by omega)).mono ?_
  rintro e w3 ⟨r3, rfl, hr3, rfl⟩
  rcases hr3 with rfl | ⟨u3, v3, s3⟩
  · go_wp2
    go_ret
    exact ⟨_, rfl, .inl rfl, B1⟩
  have n3 : ¬ r3 < 0 := by omega
  go_wp2_with fail
  refine (szLabel_v _ t.c2 _ _ T1.out.2.2.2.1 u3 (by omega)).mono ?_
  rintro e w4 ⟨r4, rfl, hr4, hb4⟩
  have B4 := then_ B1 hb4
  clear x0 x1 x2 x3 x4 x5 x6 x7 x8 x9 A1 hb4
  rcases hr4 with rfl | ⟨u4, v4, s4⟩
  · go_wp2
    go_ret
    exact ⟨_, rfl, .inl rfl, B4⟩
  have n4 : ¬ r4 < 0 := by omega
  have sm : t.small := ⟨s1, by omega, s2, s3, s4⟩
  clear s2
  go_wp2
  go_ret
  exact ⟨_, rfl, .inr ⟨u4, by omega, sm⟩, B4⟩

set_option maxRecDepth 100000 in
set_option maxHeartbeats 2000000 in
theorem szObjectS_any (a : Option Addr) (n cap : Nat) (T : Nat → ObjV) (left : Int) (w : World) (hn : n ≤ maxLen) (h0 : 0 ≤ left) (h1 : left ≤ 1048576) (hT : ObjsAt w a n T) :
    Calls Try.prog 32 #[.slice a n cap, .int .i64 left] w fun e w' => ∃ r : Int, e = .returned (.int .i64 r) ∧ (r = -1 ∨ (0 ≤ r ∧ r ≤ left ∧ n ≤ 1048576 ∧ ∀ i, i < n → (T i).small)) ∧ Below w.heap.size w w' := by
  unfold maxLen at hn
  have HT := hid hT
  clear hT
  by_cases hbig : left < n
  · have d1 : IntKind.i64.wrap (left - (n : Int)) = left - (n : Int) := by rw [IntKind.wrap_i64]; omega
    have d2 : left - (n : Int) < 0 := by omega
    go_enter Try.func32, Try.ntmps32
    go_wp2
    go_ret
    exact ⟨_, rfl, .inl rfl, Below.refl _ _⟩
  · have d1 : IntKind.i64.wrap (left - (n : Int)) = left - (n : Int) := by rw [IntKind.wrap_i64]; omega
    have d2 : ¬ left - (n : Int) < 0 := by omega
    have hn2 : n ≤ 1048576 := by omega
    go_enter Try.func32, Try.ntmps32
    go_wp2
    go_loopw [1, 5] (fun l i wr => ∃ (k : Nat) (m : Int), k ≤ n ∧ i = .int .i64 k ∧ l = .int .i64 m ∧ 0 ≤ m ∧ m ≤ left ∧ Hid (∀ j, j < k → (T j).small) ∧ Below w.heap.size w wr) (fun _ i _ => n - (intOf i).toNat)
    case atStart => exact ⟨0, _, by omega, rfl, rfl, by omega, by omega, hid (fun j hj => by omega), Below.refl _ _⟩
    case round =>
      obtain ⟨k, m, hk, rfl, rfl, m0, m1, HS, hB⟩ := hrel
      by_cases hlt : k < n
      · obtain ⟨b, off, rfl, hlt0, hc⟩ := HT.out.below hB (by omega)
        obtain ⟨q, ht⟩ := hc k hlt
        obtain ⟨q0, q1, q2, q3, q4, q5, q6, q7, q8, q9⟩ := q
        have i1 : (k : Int) < (n : Int) := by omega
        have SZ := hid (szObject_any (T k) m wr m0 (by omega) ht)
        unfold ObjV.val at SZ
        clear hc ht hlt0
        go_wp2_with fail
        refine SZ.out.mono ?_
        rintro e w2 ⟨r, rfl, hr, hb2⟩
        have B2 := then_ hB hb2
        clear q0 q1 q2 q3 q4 q5 q6 q7 q8 q9 SZ hb2
        rcases hr with rfl | ⟨r0, r1, sm⟩
        · go_wp2
          go_ret
          exact ⟨_, rfl, .inl rfl, B2⟩
        · have r2 : ¬ r < 0 := by omega
          have HS2 : Hid (∀ j, j < k + 1 → (T j).small) := hid (fun j hj => by
            by_cases e : j = k
            · subst e; exact sm
            · exact HS.out j (by omega))
          go_wp2
          exact ⟨⟨k + 1, r, by omega, by go_num, rfl, r0, by omega, HS2, B2⟩, by simp [intOf]; omega⟩
      · go_wp2
        go_ret
        exact ⟨_, rfl, .inr ⟨m0, by omega, hn2, fun i hi => HS.out i (by omega)⟩, hB⟩

/-- a kernel -/
structure KerV where
  ta : Option Addr
  tn : Nat
  tk : Nat
  T : Nat → ThrV
  oa : Option Addr
  on : Nat
  ok : Nat
  O : Nat → ObjV
def KerV.val (k : KerV) : Value := .agg #[.slice k.ta k.tn k.tk, .slice k.oa k.on k.ok]
def KerV.at (w : World) (k : KerV) : Prop := k.tn ≤ maxLen ∧ k.on ≤ maxLen ∧ ThrsAt w k.ta k.tn k.T ∧ ObjsAt w k.oa k.on k.O
theorem KerV.at.below {w w' : World} {k : KerV} (h : k.at w) (hb : Below w.heap.size w w') : k.at w' := ⟨h.1, h.2.1, h.2.2.1.below hb, h.2.2.2.below hb⟩
def KerV.small (k : KerV) : Prop := (k.tn ≤ 1048576 ∧ ∀ i, i < k.tn → (k.T i).small) ∧ (k.on ≤ 1048576 ∧ ∀ i, i < k.on → (k.O i).small)

set_option maxRecDepth 100000 in
set_option maxHeartbeats 2000000 in
theorem szKernel_any (k : KerV) (left : Int) (w : World) (h0 : 0 ≤ left) (h1 : left ≤ 1048576) (hk : k.at w) :
    Calls Try.prog 8 #[k.val, .int .i64 left] w fun e w' => ∃ r : Int, e = .returned (.int .i64 r) ∧ (r = -1 ∨ (0 ≤ r ∧ r ≤ left ∧ k.small)) ∧ Below w.heap.size w w' := by
  have hb0 := (Below.refl _ w).alloc (Nat.le_refl _) (.cells #[.slice k.ta k.tn k.tk, .slice k.oa k.on k.ok] 25)
  have A0 := Blk.new w (.cells #[.slice k.ta k.tn k.tk, .slice k.oa k.on k.ok] 25)
  have T0 := hid (hk.below hb0)
  unfold KerV.val
  obtain ⟨x0, x1⟩ := A0.two
  clear hk
  go_enter Try.func8, Try.ntmps8
  go_wp2_with fail
  refine (szThreadS_any _ _ _ k.T _ _ T0.out.1 h0 h1 T0.out.2.2.1).mono ?_
  rintro e w1 ⟨r1, rfl, hr1, hb1⟩
  have A1 := A0.below hb1
  have T1 := hid (T0.out.below hb1)
  have B1 := then_ hb0 hb1
  clear x0 x1 A0 T0 hb0 hb1
  obtain ⟨x0, x1⟩ := A1.two
  rcases hr1 with rfl | ⟨u1, v1, s1⟩
  · go_wp2
    go_ret
    exact ⟨_, rfl, .inl rfl, B1⟩
  have S1 := hid s1
  clear s1
  have n1 : ¬ r1 < 0 := by omega
  go_wp2_with fail
  refine (szObjectS_any _ _ _ k.O _ _ T1.out.2.1 u1 (by omega) T1.out.2.2.2).mono ?_
  rintro e w2 ⟨r2, rfl, hr2, hb2⟩
  have B2 := then_ B1 hb2
  clear x0 x1 A1 hb2
  rcases hr2 with rfl | ⟨u2, v2, s2⟩
  · go_wp2
    go_ret
    exact ⟨_, rfl, .inl rfl, B2⟩
  have sm : Hid k.small := hid ⟨S1.out, s2⟩
  clear s2
  have n2 : ¬ r2 < 0 := by omega
  go_wp2
  go_ret
  exact ⟨_, rfl, .inr ⟨u2, by omega, sm.out⟩, B2⟩
end Go.Proofs.Ytonpoakimpoojaa
