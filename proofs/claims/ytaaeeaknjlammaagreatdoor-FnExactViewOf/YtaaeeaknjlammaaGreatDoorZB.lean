/- Texts put together. -/
import Derived.Test.YtaaeeaknjlammaaGreatDoorZA
import Derived.Deep.RegionHeld3
import Derived.Deep.QuietTactic
import Derived.BigQuiet
/- Kernels as they lie in memory: threads, each with lists of its own; their budget. -/
namespace Go.Proofs.YtaaeeaknjlammaaGreatDoor
open Go.RowKit Go.Deep

theorem hid {p : Prop} (h : p) : Hid p := h
theorem then_ {w a b : World} (h : Below w.heap.size w a) (k : Below a.heap.size a b) : Below w.heap.size w b := h.trans (k.mono h.size)

/-- a slice of categories: where, how many, how much room, and what lies there -/
structure CatL where
  a : Option Addr
  n : Nat
  k : Nat
  f : Nat → Int
  g : Nat → Int
structure IntL where
  a : Option Addr
  n : Nat
  k : Nat
  h : Nat → Int
def CatL.at (w : World) (c : CatL) : Prop := c.n ≤ maxLen ∧ CatsAt w c.a c.n c.f c.g
def IntL.at (w : World) (c : IntL) : Prop := c.n ≤ maxLen ∧ IntsAt w c.a c.n c.h
def CatL.val (c : CatL) : Value := .slice c.a c.n c.k
def IntL.val (c : IntL) : Value := .slice c.a c.n c.k
/-- a thread -/
structure ThrV where
  id : Int
  b1 : Int
  c1 : CatL
  b2 : Int
  c2 : CatL
  own : IntL
  made : Int
def ThrV.val (t : ThrV) : Value := .agg #[.int .i64 t.id, .int .i64 t.b1, t.c1.val, .int .i64 t.b2, t.c2.val, t.own.val, .int .i64 t.made]
def ThrV.at (w : World) (t : ThrV) : Prop := t.c1.at w ∧ t.c2.at w ∧ t.own.at w
theorem CatL.at.below {w w' : World} {c : CatL} (h : c.at w) (hb : Below w.heap.size w w') : c.at w' := ⟨h.1, h.2.below hb⟩
theorem IntL.at.below {w w' : World} {c : IntL} (h : c.at w) (hb : Below w.heap.size w w') : c.at w' := ⟨h.1, h.2.below hb⟩
theorem ThrV.at.below {w w' : World} {t : ThrV} (h : t.at w) (hb : Below w.heap.size w w') : t.at w' := ⟨h.1.below hb, h.2.1.below hb, h.2.2.below hb⟩
/-- the seven cells of a thread -/
structure Cells7 (w : World) (b o : Nat) (t : ThrV) : Prop where
  c0 : w.cell? ⟨b, o, none⟩ = some (.int .i64 t.id)
  c1 : w.cell? ⟨b, o + 1, none⟩ = some (.int .i64 t.b1)
  c2 : w.cell? ⟨b, o + 2, none⟩ = some t.c1.val
  c3 : w.cell? ⟨b, o + 3, none⟩ = some (.int .i64 t.b2)
  c4 : w.cell? ⟨b, o + 4, none⟩ = some t.c2.val
  c5 : w.cell? ⟨b, o + 5, none⟩ = some t.own.val
  c6 : w.cell? ⟨b, o + 6, none⟩ = some (.int .i64 t.made)
theorem Cells7.below {w w' : World} {b o : Nat} {t : ThrV} (h : Cells7 w b o t) (hl : b < w.heap.size) (hb : Below w.heap.size w w') : Cells7 w' b o t :=
  ⟨(hb.cell (p := ⟨b, o, none⟩) hl).trans h.c0, (hb.cell (p := ⟨b, o + 1, none⟩) hl).trans h.c1, (hb.cell (p := ⟨b, o + 2, none⟩) hl).trans h.c2, (hb.cell (p := ⟨b, o + 3, none⟩) hl).trans h.c3, (hb.cell (p := ⟨b, o + 4, none⟩) hl).trans h.c4, (hb.cell (p := ⟨b, o + 5, none⟩) hl).trans h.c5, (hb.cell (p := ⟨b, o + 6, none⟩) hl).trans h.c6⟩
/-- n threads lie there -/
def ThrsAt (w : World) (a : Option Addr) (n : Nat) (T : Nat → ThrV) : Prop :=
  0 < n → ∃ b off, a = some ⟨b, off, none⟩ ∧ b < w.heap.size ∧ ∀ i, i < n → Cells7 w b (off + i * 7) (T i) ∧ (T i).at w
theorem ThrsAt.below {w w' : World} {a : Option Addr} {n : Nat} {T : Nat → ThrV} (h : ThrsAt w a n T) (hb : Below w.heap.size w w') : ThrsAt w' a n T := fun hn => by
  obtain ⟨b, off, e, hlt, hc⟩ := h hn
  exact ⟨b, off, e, Nat.lt_of_lt_of_le hlt hb.size, fun i hi => ⟨(hc i hi).1.below hlt hb, (hc i hi).2.below hb⟩⟩
/-- the lists are not long -/
def ThrV.small (t : ThrV) : Prop := t.c1.n ≤ 1048576 ∧ t.c2.n ≤ 1048576 ∧ t.own.n ≤ 1048576

theorem szThread_v (t : ThrV) (left : Int) (w : World) (ht : t.at w) (h0 : 0 ≤ left) (h1 : left ≤ 1048576) :
    Calls Tryz.prog 43 #[t.val, .int .i64 left] w fun e w' => ∃ r : Int, e = .returned (.int .i64 r) ∧ (r = -1 ∨ (0 ≤ r ∧ r ≤ left ∧ t.small)) ∧ Below w.heap.size w w' :=
  szThread_any t.id t.made t.b1 t.c1.a t.c1.n t.c1.k t.b2 t.c2.a t.c2.n t.c2.k t.own.a t.own.n t.own.k left w ht.1.1 ht.2.1.1 ht.2.2.1 h0 h1

set_option maxRecDepth 100000 in
set_option maxHeartbeats 2000000 in
theorem szThreadS_any (a : Option Addr) (n cap : Nat) (T : Nat → ThrV) (left : Int) (w : World) (hn : n ≤ maxLen) (h0 : 0 ≤ left) (h1 : left ≤ 1048576) (hT : ThrsAt w a n T) :
    Calls Tryz.prog 15 #[.slice a n cap, .int .i64 left] w fun e w' => ∃ r : Int, e = .returned (.int .i64 r) ∧ (r = -1 ∨ (0 ≤ r ∧ r ≤ left ∧ n ≤ 1048576 ∧ ∀ i, i < n → (T i).small)) ∧ Below w.heap.size w w' := by
  unfold maxLen at hn
  have HT := hid hT
  clear hT
  by_cases hbig : left < n
  · have d1 : IntKind.i64.wrap (left - (n : Int)) = left - (n : Int) := by rw [IntKind.wrap_i64]; omega
    have d2 : left - (n : Int) < 0 := by omega
    go_enter Tryz.func15, Tryz.ntmps15
    go_wp2
    go_ret
    exact ⟨_, rfl, .inl rfl, Below.refl _ _⟩
  · have d1 : IntKind.i64.wrap (left - (n : Int)) = left - (n : Int) := by rw [IntKind.wrap_i64]; omega
    have d2 : ¬ left - (n : Int) < 0 := by omega
    have hn2 : n ≤ 1048576 := by omega
    go_enter Tryz.func15, Tryz.ntmps15
    go_wp2
    go_loopw [1, 5] (fun l i wr => ∃ (k : Nat) (m : Int), k ≤ n ∧ i = .int .i64 k ∧ l = .int .i64 m ∧ 0 ≤ m ∧ m ≤ left ∧ Hid (∀ j, j < k → (T j).small) ∧ Below w.heap.size w wr) (fun _ i _ => n - (intOf i).toNat)
    case atStart => exact ⟨0, _, by omega, rfl, rfl, by omega, by omega, hid (fun j hj => by omega), Below.refl _ _⟩
    case round =>
      obtain ⟨k, m, hk, rfl, rfl, m0, m1, HS, hB⟩ := hrel
      by_cases hlt : k < n
      · obtain ⟨b, off, rfl, hlt0, hc⟩ := HT.out.below hB (by omega)
        obtain ⟨q, ht⟩ := hc k hlt
        have q0 := q.c0
        have q1 := q.c1
        have q2 := q.c2
        have q3 := q.c3
        have q4 := q.c4
        have q5 := q.c5
        have q6 := q.c6
        have i1 : (k : Int) < (n : Int) := by omega
        have SZ := hid (szThread_v (T k) m wr ht m0 (by omega))
        unfold ThrV.val at SZ
        clear hc q ht hlt0
        go_wp2_with fail
        refine SZ.out.mono ?_
        rintro e w2 ⟨r, rfl, hr, hb2⟩
        have B2 := then_ hB hb2
        clear q0 q1 q2 q3 q4 q5 q6 SZ hb2
        rcases hr with rfl | ⟨r0, r1, sm⟩
        · go_wp2
          go_ret
          exact ⟨_, rfl, .inl rfl, B2⟩
        · have r2 : ¬ r < 0 := by omega
          have HS2 : Hid (∀ j, j < k + 1 → (T j).small) := hid (fun j hj => by
            by_cases e : j = k
            · subst e; exact sm
            · exact HS.out j (by omega))
          go_wp2
          exact ⟨⟨k + 1, r, by omega, by go_num, rfl, r0, by omega, HS2, B2⟩, by simp [intOf]; omega⟩
      · go_wp2
        go_ret
        exact ⟨_, rfl, .inr ⟨m0, by omega, hn2, fun i hi => HS.out i (by omega)⟩, hB⟩
end Go.Proofs.YtaaeeaknjlammaaGreatDoor

/- Kernels as they lie in memory: objects, each with lists of its own; the budget of a kernel. -/
namespace Go.Proofs.YtaaeeaknjlammaaGreatDoor
open Go.RowKit Go.Deep

def StrAt (w : World) (a : Option Addr) (n : Nat) (f : Nat → ByteArray) : Prop := 0 < n → ∃ b off, a = some ⟨b, off, none⟩ ∧ b < w.heap.size ∧ ∀ i, i < n → w.cell? ⟨b, off + i, none⟩ = some (.string (f i))
theorem StrAt.below {w w' : World} {a : Option Addr} {n : Nat} {f : Nat → ByteArray} (h : StrAt w a n f) (hb : Below w.heap.size w w') : StrAt w' a n f := fun hn => by
  obtain ⟨b, off, e, hlt, hc⟩ := h hn
  exact ⟨b, off, e, Nat.lt_of_lt_of_le hlt hb.size, fun i hi => (hb.cell (p := ⟨b, off + i, none⟩) hlt).trans (hc i hi)⟩
structure StrL where
  a : Option Addr
  n : Nat
  k : Nat
  f : Nat → ByteArray
def StrL.at (w : World) (c : StrL) : Prop := c.n ≤ maxLen ∧ StrAt w c.a c.n c.f ∧ ∀ i, i < c.n → (c.f i).size ≤ maxLen
def StrL.val (c : StrL) : Value := .slice c.a c.n c.k
theorem StrL.at.below {w w' : World} {c : StrL} (h : c.at w) (hb : Below w.heap.size w w') : c.at w' := ⟨h.1, h.2.1.below hb, h.2.2⟩
def StrL.small (c : StrL) : Prop := c.n ≤ 1048576 ∧ ∀ i, i < c.n → (c.f i).size ≤ 1048576
/-- an object -/
structure ObjV where
  id : Int
  kind : Int
  up : Int
  b1 : Int
  c1 : CatL
  data : ByteArray
  items : StrL
  own : IntL
  b2 : Int
  c2 : CatL
def ObjV.val (t : ObjV) : Value := .agg #[.int .i64 t.id, .int .i64 t.kind, .int .i64 t.up, .int .i64 t.b1, t.c1.val, .string t.data, t.items.val, t.own.val, .int .i64 t.b2, t.c2.val]
def ObjV.at (w : World) (t : ObjV) : Prop := t.c1.at w ∧ t.items.at w ∧ t.own.at w ∧ t.c2.at w ∧ t.data.size ≤ maxLen
theorem ObjV.at.below {w w' : World} {t : ObjV} (h : t.at w) (hb : Below w.heap.size w w') : t.at w' := ⟨h.1.below hb, h.2.1.below hb, h.2.2.1.below hb, h.2.2.2.1.below hb, h.2.2.2.2⟩
def ObjV.small (t : ObjV) : Prop := t.c1.n ≤ 1048576 ∧ t.data.size ≤ 1048576 ∧ t.items.small ∧ t.own.n ≤ 1048576 ∧ t.c2.n ≤ 1048576
structure Cells10 (w : World) (b o : Nat) (t : ObjV) : Prop where
  c0 : w.cell? ⟨b, o, none⟩ = some (.int .i64 t.id)
  c1 : w.cell? ⟨b, o + 1, none⟩ = some (.int .i64 t.kind)
  c2 : w.cell? ⟨b, o + 2, none⟩ = some (.int .i64 t.up)
  c3 : w.cell? ⟨b, o + 3, none⟩ = some (.int .i64 t.b1)
  c4 : w.cell? ⟨b, o + 4, none⟩ = some t.c1.val
  c5 : w.cell? ⟨b, o + 5, none⟩ = some (.string t.data)
  c6 : w.cell? ⟨b, o + 6, none⟩ = some t.items.val
  c7 : w.cell? ⟨b, o + 7, none⟩ = some t.own.val
  c8 : w.cell? ⟨b, o + 8, none⟩ = some (.int .i64 t.b2)
  c9 : w.cell? ⟨b, o + 9, none⟩ = some t.c2.val
theorem Cells10.below {w w' : World} {b o : Nat} {t : ObjV} (h : Cells10 w b o t) (hl : b < w.heap.size) (hb : Below w.heap.size w w') : Cells10 w' b o t :=
  ⟨(hb.cell (p := ⟨b, o, none⟩) hl).trans h.c0, (hb.cell (p := ⟨b, o + 1, none⟩) hl).trans h.c1, (hb.cell (p := ⟨b, o + 2, none⟩) hl).trans h.c2, (hb.cell (p := ⟨b, o + 3, none⟩) hl).trans h.c3, (hb.cell (p := ⟨b, o + 4, none⟩) hl).trans h.c4, (hb.cell (p := ⟨b, o + 5, none⟩) hl).trans h.c5, (hb.cell (p := ⟨b, o + 6, none⟩) hl).trans h.c6, (hb.cell (p := ⟨b, o + 7, none⟩) hl).trans h.c7, (hb.cell (p := ⟨b, o + 8, none⟩) hl).trans h.c8, (hb.cell (p := ⟨b, o + 9, none⟩) hl).trans h.c9⟩
def ObjsAt (w : World) (a : Option Addr) (n : Nat) (T : Nat → ObjV) : Prop :=
  0 < n → ∃ b off, a = some ⟨b, off, none⟩ ∧ b < w.heap.size ∧ ∀ i, i < n → Cells10 w b (off + i * 10) (T i) ∧ (T i).at w
theorem ObjsAt.below {w w' : World} {a : Option Addr} {n : Nat} {T : Nat → ObjV} (h : ObjsAt w a n T) (hb : Below w.heap.size w w') : ObjsAt w' a n T := fun hn => by
  obtain ⟨b, off, e, hlt, hc⟩ := h hn
  exact ⟨b, off, e, Nat.lt_of_lt_of_le hlt hb.size, fun i hi => ⟨(hc i hi).1.below hlt hb, (hc i hi).2.below hb⟩⟩

set_option maxRecDepth 100000 in
set_option maxHeartbeats 2000000 in
theorem szStringS_any (c : StrL) (left : Int) (w : World) (h0 : 0 ≤ left) (h1 : left ≤ 1048576) (hT : c.at w) :
    Calls Tryz.prog 71 #[c.val, .int .i64 left] w fun e w' => ∃ r : Int, e = .returned (.int .i64 r) ∧ (r = -1 ∨ (0 ≤ r ∧ r ≤ left ∧ c.small)) ∧ w' = w := by
  obtain ⟨hn, HC, HZ⟩ := hT
  obtain ⟨a, n, cap, f⟩ := c
  simp only at hn HC HZ
  unfold StrL.val
  simp only
  unfold maxLen at hn HZ
  have HT := hid HC
  have HZ' := hid HZ
  clear HC HZ
  have d1 : IntKind.i64.wrap (left - (n : Int)) = left - (n : Int) := by rw [IntKind.wrap_i64]; omega
  by_cases hbig : left < n
  · have d2 : left - (n : Int) < 0 := by omega
    go_enter Tryz.func71, Tryz.ntmps71
    go_wp2
    go_ret
    exact ⟨_, rfl, .inl rfl, rfl⟩
  · have d2 : ¬ left - (n : Int) < 0 := by omega
    have hn2 : n ≤ 1048576 := by omega
    go_enter Tryz.func71, Tryz.ntmps71
    go_wp2
    go_loop [1, 5] (fun l i => ∃ (k : Nat) (m : Int), k ≤ n ∧ i = .int .i64 k ∧ l = .int .i64 m ∧ 0 ≤ m ∧ m ≤ left ∧ Hid (∀ j, j < k → (f j).size ≤ 1048576)) (fun _ i => n - (intOf i).toNat)
    case atStart => exact ⟨0, _, by omega, rfl, rfl, by omega, by omega, hid (fun j hj => by omega)⟩
    case round =>
      obtain ⟨k, m, hk, rfl, rfl, m0, m1, HS⟩ := hrel
      by_cases hlt : k < n
      · obtain ⟨b, off, rfl, hlt0, hc⟩ := HT.out (by omega)
        have q0 := hc k hlt
        have i1 : (k : Int) < (n : Int) := by omega
        have z := HZ'.out k hlt
        have d3 : IntKind.i64.wrap (m - ((f k).size : Int)) = m - ((f k).size : Int) := by rw [IntKind.wrap_i64]; omega
        clear hc
        by_cases hneg : m - ((f k).size : Int) < 0
        · go_wp2
          go_ret
          exact ⟨_, rfl, .inl rfl, rfl⟩
        · have HS2 : Hid (∀ j, j < k + 1 → (f j).size ≤ 1048576) := hid (fun j hj => by
            by_cases e : j = k
            · subst e; omega
            · exact HS.out j (by omega))
          go_wp2
          exact ⟨⟨k + 1, _, by omega, by go_num, rfl, by omega, by omega, HS2⟩, by simp [intOf]; omega⟩
      · go_wp2
        go_ret
        exact ⟨_, rfl, .inr ⟨m0, by omega, (⟨hn2, fun i (hi : i < n) => HS.out i (by omega)⟩ : StrL.small ⟨a, n, cap, f⟩)⟩, rfl⟩

theorem szLabel_v (b : Int) (c : CatL) (left : Int) (w : World) (hc : c.at w) (h0 : 0 ≤ left) (h1 : left ≤ 1048576) :
    Calls Tryz.prog 6 #[.agg #[.int .i64 b, c.val], .int .i64 left] w fun e w' => ∃ r : Int, e = .returned (.int .i64 r) ∧ (r = -1 ∨ (0 ≤ r ∧ r ≤ left ∧ c.n ≤ 1048576)) ∧ Below w.heap.size w w' :=
  (szLabel_any b c.a c.n c.k left w hc.1 h0 h1).mono fun _ _ ⟨he, hb⟩ => ⟨_, he, szOf_cases c.n left h0 h1, hb⟩
theorem szInt64S_v (c : IntL) (left : Int) (w : World) (hc : c.at w) (h0 : 0 ≤ left) (h1 : left ≤ 1048576) :
    Calls Tryz.prog 70 #[c.val, .int .i64 left] w fun e w' => ∃ r : Int, e = .returned (.int .i64 r) ∧ (r = -1 ∨ (0 ≤ r ∧ r ≤ left ∧ c.n ≤ 1048576)) ∧ w' = w :=
  (szInt64S_any c.a c.n c.k left w hc.1 h0 h1).mono fun _ _ ⟨he, hb⟩ => ⟨_, he, szOf_cases c.n left h0 h1, hb⟩
theorem Blk.ten {W : World} {P t : Nat} {x0 x1 x2 x3 x4 x5 x6 x7 x8 x9 : Value} (h : Blk W P (.cells #[x0, x1, x2, x3, x4, x5, x6, x7, x8, x9] t)) : W.cell? ⟨P, 0, none⟩ = some x0 ∧ W.cell? ⟨P, 1, none⟩ = some x1 ∧ W.cell? ⟨P, 2, none⟩ = some x2 ∧ W.cell? ⟨P, 3, none⟩ = some x3 ∧ W.cell? ⟨P, 4, none⟩ = some x4 ∧ W.cell? ⟨P, 5, none⟩ = some x5 ∧ W.cell? ⟨P, 6, none⟩ = some x6 ∧ W.cell? ⟨P, 7, none⟩ = some x7 ∧ W.cell? ⟨P, 8, none⟩ = some x8 ∧ W.cell? ⟨P, 9, none⟩ = some x9 := by
  unfold Blk at h
  simp [World.cell?, h]
def ObjV.cells (t : ObjV) : Array Value := #[.int .i64 t.id, .int .i64 t.kind, .int .i64 t.up, .int .i64 t.b1, t.c1.val, .string t.data, t.items.val, t.own.val, .int .i64 t.b2, t.c2.val]

set_option maxRecDepth 100000 in
set_option maxHeartbeats 2000000 in
theorem szObject_any (t : ObjV) (left : Int) (w : World) (h0 : 0 ≤ left) (h1 : left ≤ 1048576) (ht : t.at w) :
    Calls Tryz.prog 44 #[t.val, .int .i64 left] w fun e w' => ∃ r : Int, e = .returned (.int .i64 r) ∧ (r = -1 ∨ (0 ≤ r ∧ r ≤ left ∧ t.small)) ∧ Below w.heap.size w w' := by
  have hb0 := (Below.refl _ w).alloc (Nat.le_refl _) (.cells #[.int .i64 t.id, .int .i64 t.kind, .int .i64 t.up, .int .i64 t.b1, t.c1.val, .string t.data, t.items.val, t.own.val, .int .i64 t.b2, t.c2.val] 96)
  have A0 := Blk.new w (.cells #[.int .i64 t.id, .int .i64 t.kind, .int .i64 t.up, .int .i64 t.b1, t.c1.val, .string t.data, t.items.val, t.own.val, .int .i64 t.b2, t.c2.val] 96)
  have hdz := ht.2.2.2.2
  unfold maxLen at hdz
  have T0 := hid (ht.below hb0)
  unfold ObjV.val
  obtain ⟨x0, x1, x2, x3, x4, x5, x6, x7, x8, x9⟩ := A0.ten
  clear ht
  go_enter Tryz.func44, Tryz.ntmps44
  go_wp2_with fail
  refine (szLabel_v _ t.c1 _ _ T0.out.1 h0 h1).mono ?_
  rintro e w1 ⟨r1, rfl, hr1, hb1⟩
  have A1 := A0.below hb1
  have T1 := hid (T0.out.below hb1)
  have B1 := then_ hb0 hb1
  clear x0 x1 x2 x3 x4 x5 x6 x7 x8 x9 A0 T0 hb0 hb1
  obtain ⟨x0, x1, x2, x3, x4, x5, x6, x7, x8, x9⟩ := A1.ten
  rcases hr1 with rfl | ⟨u1, v1, s1⟩
  · go_wp2
    go_ret
    exact ⟨_, rfl, .inl rfl, B1⟩
  have n1 : ¬ r1 < 0 := by omega
  have d1 : IntKind.i64.wrap (r1 - (t.data.size : Int)) = r1 - (t.data.size : Int) := by rw [IntKind.wrap_i64]; omega
  by_cases hneg : r1 - (t.data.size : Int) < 0
  · go_wp2
    go_ret
    exact ⟨_, rfl, .inl rfl, B1⟩
  go_wp2_with fail
  refine (szStringS_any t.items _ _ (by omega) (by omega) T1.out.2.1).mono ?_
  rintro e w2 ⟨r2, rfl, hr2, rfl⟩
  rcases hr2 with rfl | ⟨u2, v2, s2⟩
  · go_wp2
    go_ret
    exact ⟨_, rfl, .inl rfl, B1⟩
  have n2 : ¬ r2 < 0 := by omega
  go_wp2_with fail
  refine (szInt64S_v t.own _ _ T1.out.2.2.1 u2 (by omega)).mono ?_
  rintro e w3 ⟨r3, rfl, hr3, rfl⟩
  rcases hr3 with rfl | ⟨u3, v3, s3⟩
  · go_wp2
    go_ret
    exact ⟨_, rfl, .inl rfl, B1⟩
  have n3 : ¬ r3 < 0 := by omega
  go_wp2_with fail
  refine (szLabel_v _ t.c2 _ _ T1.out.2.2.2.1 u3 (by omega)).mono ?_
  rintro e w4 ⟨r4, rfl, hr4, hb4⟩
  have B4 := then_ B1 hb4
  clear x0 x1 x2 x3 x4 x5 x6 x7 x8 x9 A1 hb4
  rcases hr4 with rfl | ⟨u4, v4, s4⟩
  · go_wp2
    go_ret
    exact ⟨_, rfl, .inl rfl, B4⟩
  have n4 : ¬ r4 < 0 := by omega
  have sm : t.small := ⟨s1, by omega, s2, s3, s4⟩
  clear s2
  go_wp2
  go_ret
  exact ⟨_, rfl, .inr ⟨u4, by omega, sm⟩, B4⟩

set_option maxRecDepth 100000 in
set_option maxHeartbeats 2000000 in
theorem szObjectS_any (a : Option Addr) (n cap : Nat) (T : Nat → ObjV) (left : Int) (w : World) (hn : n ≤ maxLen) (h0 : 0 ≤ left) (h1 : left ≤ 1048576) (hT : ObjsAt w a n T) :
    Calls Tryz.prog 16 #[.slice a n cap, .int .i64 left] w fun e w' => ∃ r : Int, e = .returned (.int .i64 r) ∧ (r = -1 ∨ (0 ≤ r ∧ r ≤ left ∧ n ≤ 1048576 ∧ ∀ i, i < n → (T i).small)) ∧ Below w.heap.size w w' := by
  unfold maxLen at hn
  have HT := hid hT
  clear hT
  by_cases hbig : left < n
  · have d1 : IntKind.i64.wrap (left - (n : Int)) = left - (n : Int) := by rw [IntKind.wrap_i64]; omega
    have d2 : left - (n : Int) < 0 := by omega
    go_enter Tryz.func16, Tryz.ntmps16
    go_wp2
    go_ret
    exact ⟨_, rfl, .inl rfl, Below.refl _ _⟩
  · have d1 : IntKind.i64.wrap (left - (n : Int)) = left - (n : Int) := by rw [IntKind.wrap_i64]; omega
    have d2 : ¬ left - (n : Int) < 0 := by omega
    have hn2 : n ≤ 1048576 := by omega
    go_enter Tryz.func16, Tryz.ntmps16
    go_wp2
    go_loopw [1, 5] (fun l i wr => ∃ (k : Nat) (m : Int), k ≤ n ∧ i = .int .i64 k ∧ l = .int .i64 m ∧ 0 ≤ m ∧ m ≤ left ∧ Hid (∀ j, j < k → (T j).small) ∧ Below w.heap.size w wr) (fun _ i _ => n - (intOf i).toNat)
    case atStart => exact ⟨0, _, by omega, rfl, rfl, by omega, by omega, hid (fun j hj => by omega), Below.refl _ _⟩
    case round =>
      obtain ⟨k, m, hk, rfl, rfl, m0, m1, HS, hB⟩ := hrel
      by_cases hlt : k < n
      · obtain ⟨b, off, rfl, hlt0, hc⟩ := HT.out.below hB (by omega)
        obtain ⟨q, ht⟩ := hc k hlt
        obtain ⟨q0, q1, q2, q3, q4, q5, q6, q7, q8, q9⟩ := q
        have i1 : (k : Int) < (n : Int) := by omega
        have SZ := hid (szObject_any (T k) m wr m0 (by omega) ht)
        unfold ObjV.val at SZ
        clear hc ht hlt0
        go_wp2_with fail
        refine SZ.out.mono ?_
        rintro e w2 ⟨r, rfl, hr, hb2⟩
        have B2 := then_ hB hb2
        clear q0 q1 q2 q3 q4 q5 q6 q7 q8 q9 SZ hb2
        rcases hr with rfl | ⟨r0, r1, sm⟩
        · go_wp2
          go_ret
          exact ⟨_, rfl, .inl rfl, B2⟩
        · have r2 : ¬ r < 0 := by omega
          have HS2 : Hid (∀ j, j < k + 1 → (T j).small) := hid (fun j hj => by
            by_cases e : j = k
            · subst e; exact sm
            · exact HS.out j (by omega))
          go_wp2
          exact ⟨⟨k + 1, r, by omega, by go_num, rfl, r0, by omega, HS2, B2⟩, by simp [intOf]; omega⟩
      · go_wp2
        go_ret
        exact ⟨_, rfl, .inr ⟨m0, by omega, hn2, fun i hi => HS.out i (by omega)⟩, hB⟩

/-- a kernel -/
structure KerV where
  ta : Option Addr
  tn : Nat
  tk : Nat
  T : Nat → ThrV
  oa : Option Addr
  on : Nat
  ok : Nat
  O : Nat → ObjV
def KerV.val (k : KerV) : Value := .agg #[.slice k.ta k.tn k.tk, .slice k.oa k.on k.ok]
def KerV.at (w : World) (k : KerV) : Prop := k.tn ≤ maxLen ∧ k.on ≤ maxLen ∧ ThrsAt w k.ta k.tn k.T ∧ ObjsAt w k.oa k.on k.O
theorem KerV.at.below {w w' : World} {k : KerV} (h : k.at w) (hb : Below w.heap.size w w') : k.at w' := ⟨h.1, h.2.1, h.2.2.1.below hb, h.2.2.2.below hb⟩
def KerV.small (k : KerV) : Prop := (k.tn ≤ 1048576 ∧ ∀ i, i < k.tn → (k.T i).small) ∧ (k.on ≤ 1048576 ∧ ∀ i, i < k.on → (k.O i).small)

set_option maxRecDepth 100000 in
set_option maxHeartbeats 2000000 in
theorem szKernel_any (k : KerV) (left : Int) (w : World) (h0 : 0 ≤ left) (h1 : left ≤ 1048576) (hk : k.at w) :
    Calls Tryz.prog 5 #[k.val, .int .i64 left] w fun e w' => ∃ r : Int, e = .returned (.int .i64 r) ∧ (r = -1 ∨ (0 ≤ r ∧ r ≤ left ∧ k.small)) ∧ Below w.heap.size w w' := by
  have hb0 := (Below.refl _ w).alloc (Nat.le_refl _) (.cells #[.slice k.ta k.tn k.tk, .slice k.oa k.on k.ok] 25)
  have A0 := Blk.new w (.cells #[.slice k.ta k.tn k.tk, .slice k.oa k.on k.ok] 25)
  have T0 := hid (hk.below hb0)
  unfold KerV.val
  obtain ⟨x0, x1⟩ := A0.two
  clear hk
  go_enter Tryz.func5, Tryz.ntmps5
  go_wp2_with fail
  refine (szThreadS_any _ _ _ k.T _ _ T0.out.1 h0 h1 T0.out.2.2.1).mono ?_
  rintro e w1 ⟨r1, rfl, hr1, hb1⟩
  have A1 := A0.below hb1
  have T1 := hid (T0.out.below hb1)
  have B1 := then_ hb0 hb1
  clear x0 x1 A0 T0 hb0 hb1
  obtain ⟨x0, x1⟩ := A1.two
  rcases hr1 with rfl | ⟨u1, v1, s1⟩
  · go_wp2
    go_ret
    exact ⟨_, rfl, .inl rfl, B1⟩
  have S1 := hid s1
  clear s1
  have n1 : ¬ r1 < 0 := by omega
  go_wp2_with fail
  refine (szObjectS_any _ _ _ k.O _ _ T1.out.2.1 u1 (by omega) T1.out.2.2.2).mono ?_
  rintro e w2 ⟨r2, rfl, hr2, hb2⟩
  have B2 := then_ B1 hb2
  clear x0 x1 A1 hb2
  rcases hr2 with rfl | ⟨u2, v2, s2⟩
  · go_wp2
    go_ret
    exact ⟨_, rfl, .inl rfl, B2⟩
  have sm : Hid k.small := hid ⟨S1.out, s2⟩
  clear s2
  have n2 : ¬ r2 < 0 := by omega
  go_wp2
  go_ret
  exact ⟨_, rfl, .inr ⟨u2, by omega, sm.out⟩, B2⟩
end Go.Proofs.YtaaeeaknjlammaaGreatDoor

/- Kernels as they lie in memory: copies of threads. -/
namespace Go.Proofs.YtaaeeaknjlammaaGreatDoor
open Go.RowKit Go.Deep

def CatL.same (c d : CatL) : Prop := d.n = c.n ∧ d.f = c.f ∧ d.g = c.g
def IntL.same (c d : IntL) : Prop := d.n = c.n ∧ d.h = c.h
/-- the same thread, wherever its lists lie -/
def ThrV.same (t u : ThrV) : Prop := u.id = t.id ∧ u.b1 = t.b1 ∧ t.c1.same u.c1 ∧ u.b2 = t.b2 ∧ t.c2.same u.c2 ∧ t.own.same u.own ∧ u.made = t.made

/-- lists in rows of their own, as copies have them -/
def CatL.row (w : World) (c : CatL) : Prop := ∃ b, c.a = some ⟨b, 0, none⟩ ∧ w.rowIs b 100 (c.n * 2) (pairCell c.f c.g)
def IntL.row (w : World) (c : IntL) : Prop := ∃ b, c.a = some ⟨b, 0, none⟩ ∧ w.rowIs b 2 c.n (fun i => .int .i64 (c.h i))
def ThrV.row (w : World) (t : ThrV) : Prop := t.c1.row w ∧ t.c2.row w ∧ t.own.row w
theorem rowUp {w w' : World} {b ty N : Nat} {G : Nat → Value} (h : w.rowIs b ty N G) (hb : Below w.heap.size w w') : w'.rowIs b ty N G := h.of_block (hb.block b h.lt)
theorem row_ne {w : World} {b b' t t' N N' : Nat} {G G' : Nat → Value} (h : w.rowIs b t N G) (h' : w.rowIs b' t' N' G') (ht : t ≠ t') : b ≠ b' := fun e => by
  subst e
  obtain ⟨c, e1, _⟩ := h
  obtain ⟨c', e2, _⟩ := h'
  rw [e1] at e2
  simp only [Option.some.injEq, Obj.cells.injEq] at e2
  exact ht e2.2.1
theorem CatL.row.below {w w' : World} {c : CatL} (h : c.row w) (hb : Below w.heap.size w w') : c.row w' := by
  obtain ⟨b, e, hr⟩ := h
  exact ⟨b, e, rowUp hr hb⟩
theorem IntL.row.below {w w' : World} {c : IntL} (h : c.row w) (hb : Below w.heap.size w w') : c.row w' := by
  obtain ⟨b, e, hr⟩ := h
  exact ⟨b, e, rowUp hr hb⟩
theorem ThrV.row.below {w w' : World} {t : ThrV} (h : t.row w) (hb : Below w.heap.size w w') : t.row w' := ⟨CatL.row.below h.1 hb, CatL.row.below h.2.1 hb, IntL.row.below h.2.2 hb⟩
theorem ThrV.row.put {w : World} {t : ThrV} {P ty N : Nat} {G : Nat → Value} (h : t.row w) (hP : w.rowIs P ty N G) (h1 : ty ≠ 100) (h2 : ty ≠ 2) (i : Nat) (v : Value) : t.row (w.setCell ⟨P, i, none⟩ v) := by
  obtain ⟨⟨b1, e1, r1⟩, ⟨b2, e2, r2⟩, ⟨b3, e3, r3⟩⟩ := h
  exact ⟨⟨b1, e1, r1.setOther (row_ne r1 hP h1.symm) v⟩, ⟨b2, e2, r2.setOther (row_ne r2 hP h1.symm) v⟩, ⟨b3, e3, r3.setOther (row_ne r3 hP h2.symm) v⟩⟩
theorem ThrV.row.at {w : World} {t : ThrV} (h : t.row w) (hs : t.small) : t.at w := by
  obtain ⟨⟨b1, e1, r1⟩, ⟨b2, e2, r2⟩, ⟨b3, e3, r3⟩⟩ := h
  refine ⟨⟨by unfold maxLen; have := hs.1; omega, ?_⟩, ⟨by unfold maxLen; have := hs.2.1; omega, ?_⟩, ⟨by unfold maxLen; have := hs.2.2; omega, ?_⟩⟩
  · rw [e1]; exact CatsAt.row r1
  · rw [e2]; exact CatsAt.row r2
  · rw [e3]; exact IntsAt.row r3

/-- its lists lie in new memory -/
def ThrV.since (B : Nat) (t : ThrV) : Prop := (∀ p, t.c1.a = some p → B ≤ p.block) ∧ (∀ p, t.c2.a = some p → B ≤ p.block) ∧ (∀ p, t.own.a = some p → B ≤ p.block)
theorem ThrV.since.low {B B' : Nat} {t : ThrV} (h : t.since B) (hB : B' ≤ B) : t.since B' := ⟨fun p e => Nat.le_trans hB (h.1 p e), fun p e => Nat.le_trans hB (h.2.1 p e), fun p e => Nat.le_trans hB (h.2.2 p e)⟩
theorem toThread_v (t : ThrV) (w : World) (ht : t.at w) (hs : t.small) :
    Calls Tryz.prog 52 #[t.val] w fun e w' => ∃ u : ThrV, e = .returned u.val ∧ t.same u ∧ (u.row w' ∧ u.since w.heap.size) ∧ Below w.heap.size w w' := by
  refine (toThread_any t.id t.made t.b1 t.c1.a t.c1.n t.c1.k t.c1.f t.c1.g t.b2 t.c2.a t.c2.n t.c2.k t.c2.f t.c2.g t.own.a t.own.n t.own.k t.own.h w hs.1 hs.2.1 hs.2.2 ht.1.2 ht.2.1.2 ht.2.2.2).mono ?_
  rintro e w' ⟨c1, c2, c3, rfl, r1, r2, r3, hb, l1, l2, l3⟩
  exact ⟨⟨t.id, t.b1, ⟨some ⟨c1, 0, none⟩, t.c1.n, t.c1.n, t.c1.f, t.c1.g⟩, t.b2, ⟨some ⟨c2, 0, none⟩, t.c2.n, t.c2.n, t.c2.f, t.c2.g⟩, ⟨some ⟨c3, 0, none⟩, t.own.n, t.own.n, t.own.h⟩, t.made⟩, rfl, ⟨rfl, rfl, ⟨rfl, rfl, rfl⟩, rfl, ⟨rfl, rfl, rfl⟩, ⟨rfl, rfl⟩, rfl⟩, ⟨⟨⟨c1, rfl, r1⟩, ⟨c2, rfl, r2⟩, ⟨c3, rfl, r3⟩⟩, ⟨fun p e => by cases e; exact l1, fun p e => by cases e; exact l2, fun p e => by cases e; exact l3⟩⟩, hb⟩

/-- a row of threads, cell by cell -/
structure G7 (G : Nat → Value) (o : Nat) (t : ThrV) : Prop where
  g0 : G o = .int .i64 t.id
  g1 : G (o + 1) = .int .i64 t.b1
  g2 : G (o + 2) = t.c1.val
  g3 : G (o + 3) = .int .i64 t.b2
  g4 : G (o + 4) = t.c2.val
  g5 : G (o + 5) = t.own.val
  g6 : G (o + 6) = .int .i64 t.made
theorem G7.cells {w : World} {b ty N : Nat} {G : Nat → Value} {o : Nat} {t : ThrV} (hr : w.rowIs b ty N G) (h : G7 G o t) (ho : o + 7 ≤ N) : Cells7 w b o t :=
  ⟨(hr.cell (by omega)).trans (congrArg some h.g0), (hr.cell (by omega)).trans (congrArg some h.g1), (hr.cell (by omega)).trans (congrArg some h.g2), (hr.cell (by omega)).trans (congrArg some h.g3), (hr.cell (by omega)).trans (congrArg some h.g4), (hr.cell (by omega)).trans (congrArg some h.g5), (hr.cell (by omega)).trans (congrArg some h.g6)⟩
theorem put7 {w : World} {b ty N : Nat} {G : Nat → Value} (hr : w.rowIs b ty N G) (o : Nat) (x0 x1 x2 x3 x4 x5 x6 : Value) :
    ∃ G' : Nat → Value, (((((((w.setCell ⟨b, o, none⟩ x0).setCell ⟨b, o + 1, none⟩ x1).setCell ⟨b, o + 2, none⟩ x2).setCell ⟨b, o + 3, none⟩ x3).setCell ⟨b, o + 4, none⟩ x4).setCell ⟨b, o + 5, none⟩ x5).setCell ⟨b, o + 6, none⟩ x6).rowIs b ty N G' ∧
      (G' o = x0 ∧ G' (o + 1) = x1 ∧ G' (o + 2) = x2 ∧ G' (o + 3) = x3 ∧ G' (o + 4) = x4 ∧ G' (o + 5) = x5 ∧ G' (o + 6) = x6) ∧ ∀ i, i < o → G' i = G i := by
  refine ⟨_, ((((((hr.set o x0).set (o + 1) x1).set (o + 2) x2).set (o + 3) x3).set (o + 4) x4).set (o + 5) x5).set (o + 6) x6, ⟨?_, ?_, ?_, ?_, ?_, ?_, ?_⟩, fun i hi => ?_⟩
  · simp
  · simp
  · simp
  · simp
  · simp
  · simp
  · simp
  · rw [if_neg (by omega), if_neg (by omega), if_neg (by omega), if_neg (by omega), if_neg (by omega), if_neg (by omega), if_neg (by omega)]

theorem ThrV.row.put7 {w : World} {t : ThrV} {P ty N : Nat} {G : Nat → Value} (h : t.row w) (hP : w.rowIs P ty N G) (h1 : ty ≠ 100) (h2 : ty ≠ 2) (o : Nat) (x0 x1 x2 x3 x4 x5 x6 : Value) :
    t.row (((((((w.setCell ⟨P, o, none⟩ x0).setCell ⟨P, o + 1, none⟩ x1).setCell ⟨P, o + 2, none⟩ x2).setCell ⟨P, o + 3, none⟩ x3).setCell ⟨P, o + 4, none⟩ x4).setCell ⟨P, o + 5, none⟩ x5).setCell ⟨P, o + 6, none⟩ x6) := by
  have r0 := hP.set o x0
  have r1 := r0.set (o + 1) x1
  have r2 := r1.set (o + 2) x2
  have r3 := r2.set (o + 3) x3
  have r4 := r3.set (o + 4) x4
  have r5 := r4.set (o + 5) x5
  exact ThrV.row.put (ThrV.row.put (ThrV.row.put (ThrV.row.put (ThrV.row.put (ThrV.row.put (ThrV.row.put h hP h1 h2 o x0) r0 h1 h2 _ x1) r1 h1 h2 _ x2) r2 h1 h2 _ x3) r3 h1 h2 _ x4) r4 h1 h2 _ x5) r5 h1 h2 _ x6
theorem Tryz.info54 : (Tryz.prog.info? 54).map (fun i => (i.zero, i.size, i.bytes)) = some (some (.agg #[.int .i64 0, .int .i64 0, .slice none 0 0, .int .i64 0, .slice none 0 0, .slice none 0 0, .int .i64 0]), 7, 104) := by kernel_rfl
theorem run_make_thr (n : Nat) (hn : n ≤ 1048576) (w : World) :
    ∃ c : Array Value, c.size = n * 7 ∧ (Instr.makeSlice 32 (.int .i64 (n : Int)) (.int .i64 (n : Int))).run Tryz.prog w = .ok (.slice (some ⟨w.heap.size, 0, none⟩) n n) (w.alloc (.cells c 54)) := by
  obtain ⟨i, hi, hzz⟩ := Option.map_eq_some_iff.1 Tryz.info54
  simp only [Prod.mk.injEq] at hzz
  obtain ⟨hz, hs, hb⟩ := hzz
  have hr := run_make (P := Tryz.prog) w 32 54 i _ Tryz.underlying32 hi hz .i64 .i64 n n (by omega) (Int.le_refl _) (by rw [hb]; omega) (by omega)
  simp only [Int.toNat_natCast, hs] at hr
  exact ⟨_, size_madeCells _ _, hr⟩

/-- the first k threads of the copy -/
def Copied (w : World) (N k : Nat) (T U : Nat → ThrV) (wr : World) : Prop :=
  ∃ G : Nat → Value, wr.rowIs w.heap.size 54 N G ∧ ∀ j, j < k → G7 G (j * 7) (U j) ∧ (T j).same (U j) ∧ (U j).row wr ∧ (U j).since w.heap.size

set_option maxRecDepth 100000 in
set_option maxHeartbeats 2000000 in
theorem toThreadS_any (a : Option Addr) (n cap : Nat) (T : Nat → ThrV) (w : World) (hn : n ≤ 1048576) (hT : ThrsAt w a n T) (hs : ∀ i, i < n → (T i).small) :
    Calls Tryz.prog 26 #[.slice a n cap] w fun e w' => e = .returned (.slice (some ⟨w.heap.size, 0, none⟩) n n) ∧ (∃ U, Copied w (n * 7) n T U w') ∧ Below w.heap.size w w' := by
  obtain ⟨c, hc7, hmk⟩ := run_make_thr n hn w
  have HT := hid hT
  have HS := hid hs
  have R0 : Hid ((w.alloc (.cells c 54)).rowIs w.heap.size 54 (n * 7) (fun i => c[i]?.getD undef)) := hid (by
    rw [← hc7]
    exact World.rowIs_alloc w c 54 _ (fun i hi => by simp [hi]))
  clear hT hs
  go_enter Tryz.func26, Tryz.ntmps26
  go_wp2
  go_loopw [4] (fun i wr => ∃ k : Nat, k ≤ n ∧ i = .int .i64 k ∧ (∃ U, Copied w (n * 7) k T U wr) ∧ Below w.heap.size w wr) (fun i _ => n - (intOf i).toNat)
  case atStart => exact ⟨0, Nat.zero_le _, rfl, ⟨T, _, R0.out, fun j hj => by omega⟩, (Below.refl _ _).alloc (Nat.le_refl _) _⟩
  case round =>
    obtain ⟨k, hk, rfl, ⟨U, G, hG, hU⟩, hB⟩ := hrel
    have UU := hid hU
    have GG := hid hG
    clear hmk R0 hU hG
    by_cases hlt : k < n
    · obtain ⟨b, off, rfl, hlt0, hc⟩ := HT.out.below hB (by omega)
      obtain ⟨q, ht⟩ := hc k hlt
      obtain ⟨q0, q1, q2, q3, q4, q5, q6⟩ := q
      have i1 : (k : Int) < (n : Int) := by omega
      have SZ := hid (toThread_v (T k) wr ht (HS.out k hlt))
      unfold ThrV.val at SZ
      clear hc ht hlt0
      go_wp2_with fail
      refine SZ.out.mono ?_
      rintro e w2 ⟨u, rfl, us, ⟨ua, un⟩, hb2⟩
      have UL := hid (un.low hB.size)
      clear un
      have B2 := then_ hB hb2
      have G2 := hid (rowUp GG.out hb2)
      have U2 := hid (fun j (hj : j < k) => (⟨(UU.out j hj).1, (UU.out j hj).2.1, ThrV.row.below (UU.out j hj).2.2.1 hb2, (UU.out j hj).2.2.2⟩ : G7 G (j * 7) (U j) ∧ (T j).same (U j) ∧ (U j).row w2 ∧ (U j).since w.heap.size))
      have UA := hid ua
      clear q0 q1 q2 q3 q4 q5 q6 SZ UU GG hb2 ua
      have z0 := G2.out.cell (i := k * 7) (by omega)
      have z1 := G2.out.cell (i := k * 7 + 1) (by omega)
      have z2 := G2.out.cell (i := k * 7 + 2) (by omega)
      have z3 := G2.out.cell (i := k * 7 + 3) (by omega)
      have z4 := G2.out.cell (i := k * 7 + 4) (by omega)
      have z5 := G2.out.cell (i := k * 7 + 5) (by omega)
      have z6 := G2.out.cell (i := k * 7 + 6) (by omega)
      have zf := G2.out.frozen
      obtain ⟨G', hG', ⟨e0, e1, e2, e3, e4, e5, e6⟩, hold⟩ := put7 G2.out (k * 7) (.int .i64 u.id) (.int .i64 u.b1) u.c1.val (.int .i64 u.b2) u.c2.val u.own.val (.int .i64 u.made)
      have GN := hid hG'
      have RU : Hid (∀ t : ThrV, t.row w2 → t.row _) := hid (fun t h => ThrV.row.put7 h G2.out (by decide) (by decide) (k * 7) (.int .i64 u.id) (.int .i64 u.b1) u.c1.val (.int .i64 u.b2) u.c2.val u.own.val (.int .i64 u.made))
      have UN : Hid (∀ j, j < k + 1 → G7 G' (j * 7) (if j = k then u else U j) ∧ (T j).same (if j = k then u else U j) ∧ (if j = k then u else U j).row w2 ∧ (if j = k then u else U j).since w.heap.size) := hid (fun j hj => by
        by_cases e : j = k
        · subst e
          rw [if_pos rfl]
          exact ⟨⟨e0, e1, e2, e3, e4, e5, e6⟩, us, UA.out, UL.out⟩
        · rw [if_neg e]
          obtain ⟨⟨g0, g1, g2, g3, g4, g5, g6⟩, o2, o3⟩ := U2.out j (by omega)
          exact ⟨⟨(hold _ (by omega)).trans g0, (hold _ (by omega)).trans g1, (hold _ (by omega)).trans g2, (hold _ (by omega)).trans g3, (hold _ (by omega)).trans g4, (hold _ (by omega)).trans g5, (hold _ (by omega)).trans g6⟩, o2, o3⟩)
      clear e0 e1 e2 e3 e4 e5 e6 hold hG' us
      unfold CatL.val IntL.val
      go_wp2
      refine ⟨⟨k + 1, by omega, by go_num, ⟨fun j => if j = k then u else U j, G', GN.out, fun j hj => ⟨(UN.out j hj).1, (UN.out j hj).2.1, RU.out _ (UN.out j hj).2.2.1, (UN.out j hj).2.2.2⟩⟩, ?_⟩, by simp [intOf]; omega⟩
      exact ((((((B2.setCell (Nat.le_refl _) _).setCell (Nat.le_refl _) _).setCell (Nat.le_refl _) _).setCell (Nat.le_refl _) _).setCell (Nat.le_refl _) _).setCell (Nat.le_refl _) _).setCell (Nat.le_refl _) _
    · go_wp2
      go_ret
      have e : k = n := by omega
      subst e
      exact ⟨rfl, ⟨U, G, GG.out, UU.out⟩, hB⟩
end Go.Proofs.YtaaeeaknjlammaaGreatDoor

/- Kernels as they lie in memory: copies of lists of texts and of objects. -/
namespace Go.Proofs.YtaaeeaknjlammaaGreatDoor
open Go.RowKit Go.Deep

theorem Tryz.info9 : (Tryz.prog.info? 9).map (fun i => (i.zero, i.size, i.bytes)) = some (some (.string ⟨#[]⟩), 1, 16) := by kernel_rfl
def StrL.row (w : World) (c : StrL) : Prop := ∃ b, c.a = some ⟨b, 0, none⟩ ∧ w.rowIs b 9 c.n (fun i => .string (c.f i))
set_option maxRecDepth 100000 in
set_option maxHeartbeats 1000000 in
theorem toStringS_any (a : Option Addr) (n cap : Nat) (f : Nat → ByteArray) (w : World) (hn : n ≤ 1048576) (hc : StrAt w a n f) :
    Calls Tryz.prog 75 #[.slice a n cap] w fun e w' => e = .returned (.slice (some ⟨w.heap.size, 0, none⟩) n n) ∧ w'.rowIs w.heap.size 9 n (fun i => .string (f i)) ∧ Below w.heap.size w w' := by
  have hmk := run_make_row' (P := Tryz.prog) 58 9 _ 16 Tryz.underlying58 Tryz.info9 rfl .i64 .i64 n (by omega) (by omega)
  go_enter Tryz.func75, Tryz.ntmps75
  go_wp2
  go_loopw [4] (fun i wr => ∃ k : Nat, k ≤ n ∧ i = .int .i64 k ∧ (∃ G, wr.rowIs w.heap.size 9 n G ∧ ∀ j, j < k → G j = .string (f j)) ∧ Below w.heap.size w wr) (fun i _ => n - (intOf i).toNat)
  case atStart => exact ⟨0, Nat.zero_le _, rfl, ⟨_, World.rowIs_made w (.string ⟨#[]⟩) n 9, fun j hj => by omega⟩, (Below.refl _ _).alloc (Nat.le_refl _) _⟩
  case round =>
    obtain ⟨k, hk, rfl, ⟨G, hrow, hG⟩, hB⟩ := hrel
    clear hmk
    have HG := hid hG
    clear hG
    by_cases hlt' : k < n
    · obtain ⟨b, off, rfl, hlt, hc⟩ := hc (by omega)
      have g1 : wr.cell? ⟨b, off + k, none⟩ = some (.string (f k)) := (hB.cell (p := ⟨b, _, none⟩) hlt).trans (hc k hlt')
      have c1 := hrow.cell (i := k) (by omega)
      have f1 := hrow.frozen k
      clear hc
      go_wp2
      refine ⟨⟨k + 1, by omega, by go_num, ⟨_, hrow.set k (.string (f k)), fun j hj => ?_⟩, hB.setCell (Nat.le_refl _) _⟩, by simp [intOf]; omega⟩
      by_cases e : j = k
      · subst e; simp
      · rw [if_neg e]; exact HG.out j (by omega)
    · clear hc
      go_wp2
      go_ret
      have e : k = n := by omega
      subst e
      exact ⟨rfl, hrow.congr (fun j hj => HG.out j hj), hB⟩

theorem Blk.setAt {W : World} {P t i : Nat} {cs : Array Value} (h : Blk W P (.cells cs t)) (v : Value) : Blk (W.setCell ⟨P, i, none⟩ v) P (.cells (cs.setIfInBounds i v) t) := by
  unfold Blk at *
  simp [World.setCell, Array.getElem?_modify, h]
theorem Blk.warm {W : World} {P t : Nat} {cs : Array Value} (h : Blk W P (.cells cs t)) (i : Nat) : W.frozen? ⟨P, i, none⟩ = false := by
  unfold Blk at h
  simp [World.frozen?, h]
theorem Blk.other {W : World} {P Q i : Nat} {o : Obj} (h : Blk W P o) (hne : Q ≠ P) (v : Value) : Blk (W.setCell ⟨Q, i, none⟩ v) P o := by
  unfold Blk at *
  simp [World.setCell, Array.getElem?_modify, h, hne]
theorem Blk.all10 {W : World} {P t : Nat} {z0 z1 z2 z3 z4 z5 z6 z7 z8 z9 : Value} (h : Blk W P (.cells #[z0, z1, z2, z3, z4, z5, z6, z7, z8, z9] t)) (x0 x1 x2 x3 x4 x5 x6 x7 x8 x9 : Value) :
    Blk ((((((((((W.setCell ⟨P, 0, none⟩ x0).setCell ⟨P, 1, none⟩ x1).setCell ⟨P, 2, none⟩ x2).setCell ⟨P, 3, none⟩ x3).setCell ⟨P, 4, none⟩ x4).setCell ⟨P, 5, none⟩ x5).setCell ⟨P, 6, none⟩ x6).setCell ⟨P, 7, none⟩ x7).setCell ⟨P, 8, none⟩ x8).setCell ⟨P, 9, none⟩ x9) P (.cells #[x0, x1, x2, x3, x4, x5, x6, x7, x8, x9] t) := by
  have h0 : Blk _ P (.cells #[x0, z1, z2, z3, z4, z5, z6, z7, z8, z9] t) := h.setAt (i := 0) x0
  have h1 : Blk _ P (.cells #[x0, x1, z2, z3, z4, z5, z6, z7, z8, z9] t) := h0.setAt (i := 1) x1
  have h2 : Blk _ P (.cells #[x0, x1, x2, z3, z4, z5, z6, z7, z8, z9] t) := h1.setAt (i := 2) x2
  have h3 : Blk _ P (.cells #[x0, x1, x2, x3, z4, z5, z6, z7, z8, z9] t) := h2.setAt (i := 3) x3
  have h4 : Blk _ P (.cells #[x0, x1, x2, x3, x4, z5, z6, z7, z8, z9] t) := h3.setAt (i := 4) x4
  have h5 : Blk _ P (.cells #[x0, x1, x2, x3, x4, x5, z6, z7, z8, z9] t) := h4.setAt (i := 5) x5
  have h6 : Blk _ P (.cells #[x0, x1, x2, x3, x4, x5, x6, z7, z8, z9] t) := h5.setAt (i := 6) x6
  have h7 : Blk _ P (.cells #[x0, x1, x2, x3, x4, x5, x6, x7, z8, z9] t) := h6.setAt (i := 7) x7
  have h8 : Blk _ P (.cells #[x0, x1, x2, x3, x4, x5, x6, x7, x8, z9] t) := h7.setAt (i := 8) x8
  exact h8.setAt (i := 9) x9
set_option maxRecDepth 100000 in
theorem results69 (tmps : Array Value) (W : World) (P : Nat) (x0 x1 x2 x3 x4 x5 x6 x7 x8 x9 : Value) (h : Blk W P (.cells #[x0, x1, x2, x3, x4, x5, x6, x7, x8, x9] 60)) (h2 : tmps[2]? = some (.pointer (some ⟨P, 0, none⟩))) :
    (results Tryz.f53 tmps).run Tryz.prog W = .ok (.agg #[x0, x1, x2, x3, x4, x5, x6, x7, x8, x9]) W := by
  obtain ⟨z0, z1, z2, z3, z4, z5, z6, z7, z8, z9⟩ := h.ten
  simp [results, Tryz.results53, go_sem, h2, z0, z1, z2, z3, z4, z5, z6, z7, z8, z9]
end Go.Proofs.YtaaeeaknjlammaaGreatDoor

/- Kernels as they lie in memory: the copy of an object. -/
namespace Go.Proofs.YtaaeeaknjlammaaGreatDoor
open Go.RowKit Go.Deep

set_option maxRecDepth 100000 in
set_option maxHeartbeats 4000000 in
theorem toObject_any (t : ObjV) (w : World) (ht : t.at w) (hs : t.small) :
    Calls Tryz.prog 53 #[.agg #[.int .i64 t.id, .int .i64 t.kind, .int .i64 t.up, .int .i64 t.b1, .slice t.c1.a t.c1.n t.c1.k, .string t.data, .slice t.items.a t.items.n t.items.k, .slice t.own.a t.own.n t.own.k, .int .i64 t.b2, .slice t.c2.a t.c2.n t.c2.k]] w fun e w' => ∃ d1 d2 d3 d4, e = .returned (.agg #[.int .i64 t.id, .int .i64 t.kind, .int .i64 t.up, .int .i64 t.b1, .slice (some ⟨d1, 0, none⟩) t.c1.n t.c1.n, .string t.data, .slice (some ⟨d2, 0, none⟩) t.items.n t.items.n, .slice (some ⟨d3, 0, none⟩) t.own.n t.own.n, .int .i64 t.b2, .slice (some ⟨d4, 0, none⟩) t.c2.n t.c2.n]) ∧ w'.rowIs d1 100 (t.c1.n * 2) (pairCell t.c1.f t.c1.g) ∧ w'.rowIs d2 9 t.items.n (fun i => .string (t.items.f i)) ∧ w'.rowIs d3 2 t.own.n (fun i => .int .i64 (t.own.h i)) ∧ w'.rowIs d4 100 (t.c2.n * 2) (pairCell t.c2.f t.c2.g) ∧ Below w.heap.size w w' ∧ w.heap.size ≤ d1 ∧ w.heap.size ≤ d2 ∧ w.heap.size ≤ d3 ∧ w.heap.size ≤ d4 := by
  have HT := hid ht
  obtain ⟨m1, m2, m3, m4, m5⟩ := hs
  have m3' := m3.1
  clear ht
  have S0a : Hid (Blk (((w.alloc (.cells #[.int .i64 t.id, .int .i64 t.kind, .int .i64 t.up, .int .i64 t.b1, .slice t.c1.a t.c1.n t.c1.k, .string t.data, .slice t.items.a t.items.n t.items.k, .slice t.own.a t.own.n t.own.k, .int .i64 t.b2, .slice t.c2.a t.c2.n t.c2.k] 96)).alloc (.cells #[.int .i64 0, .int .i64 0, .int .i64 0, .int .i64 0, .slice none 0 0, .string ⟨#[]⟩, .slice none 0 0, .slice none 0 0, .int .i64 0, .slice none 0 0] 60)).alloc (.cells #[.int .i64 t.id, .int .i64 t.kind, .int .i64 t.up, .int .i64 0, .slice none 0 0, .string ⟨#[]⟩, .slice none 0 0, .slice none 0 0, .int .i64 0, .slice none 0 0] 60)) w.heap.size (.cells #[.int .i64 t.id, .int .i64 t.kind, .int .i64 t.up, .int .i64 t.b1, .slice t.c1.a t.c1.n t.c1.k, .string t.data, .slice t.items.a t.items.n t.items.k, .slice t.own.a t.own.n t.own.k, .int .i64 t.b2, .slice t.c2.a t.c2.n t.c2.k] 96)) := hid (((Blk.new w _).alloc _).alloc _)
  have R0a : Hid (Blk (((w.alloc (.cells #[.int .i64 t.id, .int .i64 t.kind, .int .i64 t.up, .int .i64 t.b1, .slice t.c1.a t.c1.n t.c1.k, .string t.data, .slice t.items.a t.items.n t.items.k, .slice t.own.a t.own.n t.own.k, .int .i64 t.b2, .slice t.c2.a t.c2.n t.c2.k] 96)).alloc (.cells #[.int .i64 0, .int .i64 0, .int .i64 0, .int .i64 0, .slice none 0 0, .string ⟨#[]⟩, .slice none 0 0, .slice none 0 0, .int .i64 0, .slice none 0 0] 60)).alloc (.cells #[.int .i64 t.id, .int .i64 t.kind, .int .i64 t.up, .int .i64 0, .slice none 0 0, .string ⟨#[]⟩, .slice none 0 0, .slice none 0 0, .int .i64 0, .slice none 0 0] 60)) (w.heap.size + 1) (.cells #[.int .i64 0, .int .i64 0, .int .i64 0, .int .i64 0, .slice none 0 0, .string ⟨#[]⟩, .slice none 0 0, .slice none 0 0, .int .i64 0, .slice none 0 0] 60)) := by
    have := (Blk.new (w.alloc (.cells #[.int .i64 t.id, .int .i64 t.kind, .int .i64 t.up, .int .i64 t.b1, .slice t.c1.a t.c1.n t.c1.k, .string t.data, .slice t.items.a t.items.n t.items.k, .slice t.own.a t.own.n t.own.k, .int .i64 t.b2, .slice t.c2.a t.c2.n t.c2.k] 96)) (.cells #[.int .i64 0, .int .i64 0, .int .i64 0, .int .i64 0, .slice none 0 0, .string ⟨#[]⟩, .slice none 0 0, .slice none 0 0, .int .i64 0, .slice none 0 0] 60)).alloc (.cells #[.int .i64 t.id, .int .i64 t.kind, .int .i64 t.up, .int .i64 0, .slice none 0 0, .string ⟨#[]⟩, .slice none 0 0, .slice none 0 0, .int .i64 0, .slice none 0 0] 60)
    refine hid ?_
    simpa using this
  have Q0a : Hid (Blk (((w.alloc (.cells #[.int .i64 t.id, .int .i64 t.kind, .int .i64 t.up, .int .i64 t.b1, .slice t.c1.a t.c1.n t.c1.k, .string t.data, .slice t.items.a t.items.n t.items.k, .slice t.own.a t.own.n t.own.k, .int .i64 t.b2, .slice t.c2.a t.c2.n t.c2.k] 96)).alloc (.cells #[.int .i64 0, .int .i64 0, .int .i64 0, .int .i64 0, .slice none 0 0, .string ⟨#[]⟩, .slice none 0 0, .slice none 0 0, .int .i64 0, .slice none 0 0] 60)).alloc (.cells #[.int .i64 t.id, .int .i64 t.kind, .int .i64 t.up, .int .i64 0, .slice none 0 0, .string ⟨#[]⟩, .slice none 0 0, .slice none 0 0, .int .i64 0, .slice none 0 0] 60)) (w.heap.size + 1 + 1) (.cells #[.int .i64 t.id, .int .i64 t.kind, .int .i64 t.up, .int .i64 0, .slice none 0 0, .string ⟨#[]⟩, .slice none 0 0, .slice none 0 0, .int .i64 0, .slice none 0 0] 60)) := by
    have := Blk.new ((w.alloc (.cells #[.int .i64 t.id, .int .i64 t.kind, .int .i64 t.up, .int .i64 t.b1, .slice t.c1.a t.c1.n t.c1.k, .string t.data, .slice t.items.a t.items.n t.items.k, .slice t.own.a t.own.n t.own.k, .int .i64 t.b2, .slice t.c2.a t.c2.n t.c2.k] 96)).alloc (.cells #[.int .i64 0, .int .i64 0, .int .i64 0, .int .i64 0, .slice none 0 0, .string ⟨#[]⟩, .slice none 0 0, .slice none 0 0, .int .i64 0, .slice none 0 0] 60)) (.cells #[.int .i64 t.id, .int .i64 t.kind, .int .i64 t.up, .int .i64 0, .slice none 0 0, .string ⟨#[]⟩, .slice none 0 0, .slice none 0 0, .int .i64 0, .slice none 0 0] 60)
    refine hid ?_
    simpa using this
  have B0a : Hid (Below w.heap.size w (((w.alloc (.cells #[.int .i64 t.id, .int .i64 t.kind, .int .i64 t.up, .int .i64 t.b1, .slice t.c1.a t.c1.n t.c1.k, .string t.data, .slice t.items.a t.items.n t.items.k, .slice t.own.a t.own.n t.own.k, .int .i64 t.b2, .slice t.c2.a t.c2.n t.c2.k] 96)).alloc (.cells #[.int .i64 0, .int .i64 0, .int .i64 0, .int .i64 0, .slice none 0 0, .string ⟨#[]⟩, .slice none 0 0, .slice none 0 0, .int .i64 0, .slice none 0 0] 60)).alloc (.cells #[.int .i64 t.id, .int .i64 t.kind, .int .i64 t.up, .int .i64 0, .slice none 0 0, .string ⟨#[]⟩, .slice none 0 0, .slice none 0 0, .int .i64 0, .slice none 0 0] 60))) := hid ((((Below.refl _ w).alloc (Nat.le_refl _) _).alloc (by simp) _).alloc (by simp; omega) _)
  go_enter Tryz.func53, Tryz.ntmps53
  go_wp2_with fail
  generalize (((w.alloc (.cells #[.int .i64 t.id, .int .i64 t.kind, .int .i64 t.up, .int .i64 t.b1, .slice t.c1.a t.c1.n t.c1.k, .string t.data, .slice t.items.a t.items.n t.items.k, .slice t.own.a t.own.n t.own.k, .int .i64 t.b2, .slice t.c2.a t.c2.n t.c2.k] 96)).alloc (.cells #[.int .i64 0, .int .i64 0, .int .i64 0, .int .i64 0, .slice none 0 0, .string ⟨#[]⟩, .slice none 0 0, .slice none 0 0, .int .i64 0, .slice none 0 0] 60)).alloc (.cells #[.int .i64 t.id, .int .i64 t.kind, .int .i64 t.up, .int .i64 0, .slice none 0 0, .string ⟨#[]⟩, .slice none 0 0, .slice none 0 0, .int .i64 0, .slice none 0 0] 60)) = V0 at *
  have l0 := Q0a.out.lt
  refine (toLabel_any _ _ _ _ t.c1.f t.c1.g _ m1 (HT.out.1.2.below B0a.out)).mono ?_
  rintro e w1 ⟨d1, rfl, g1, r1, hb1⟩
  have Q1 := hid (Q0a.out.below hb1)
  have S1 := hid (S0a.out.below hb1)
  have R1 := hid (R0a.out.below hb1)
  have B1 := hid (then_ B0a.out hb1)
  have Nd11 := hid r1
  have y1 := hb1.size
  clear Q0a S0a R0a B0a r1 hb1
  have Q1a : Hid (Blk (((w1.setCell ⟨w.heap.size + 1 + 1, 3, none⟩ (.int .i64 t.b1)).setCell ⟨w.heap.size + 1 + 1, 4, none⟩ (.slice (some ⟨d1, 0, none⟩) t.c1.n t.c1.n)).setCell ⟨w.heap.size + 1 + 1, 5, none⟩ (.string t.data)) (w.heap.size + 1 + 1) (.cells #[.int .i64 t.id, .int .i64 t.kind, .int .i64 t.up, .int .i64 t.b1, .slice (some ⟨d1, 0, none⟩) t.c1.n t.c1.n, .string t.data, .slice none 0 0, .slice none 0 0, .int .i64 0, .slice none 0 0] 60)) := hid ((((Q1.out.setAt _).setAt _).setAt _))
  have S1a := hid ((((S1.out.other (Q := w.heap.size + 1 + 1) (i := 3) (by omega) (.int .i64 t.b1)).other (Q := w.heap.size + 1 + 1) (i := 4) (by omega) (.slice (some ⟨d1, 0, none⟩) t.c1.n t.c1.n)).other (Q := w.heap.size + 1 + 1) (i := 5) (by omega) (.string t.data)))
  have R1a := hid ((((R1.out.other (Q := w.heap.size + 1 + 1) (i := 3) (by omega) (.int .i64 t.b1)).other (Q := w.heap.size + 1 + 1) (i := 4) (by omega) (.slice (some ⟨d1, 0, none⟩) t.c1.n t.c1.n)).other (Q := w.heap.size + 1 + 1) (i := 5) (by omega) (.string t.data)))
  have B1a := hid ((((B1.out.setCell (p := ⟨w.heap.size + 1 + 1, 3, none⟩) (show w.heap.size ≤ w.heap.size + 1 + 1 by omega) (.int .i64 t.b1)).setCell (p := ⟨w.heap.size + 1 + 1, 4, none⟩) (show w.heap.size ≤ w.heap.size + 1 + 1 by omega) (.slice (some ⟨d1, 0, none⟩) t.c1.n t.c1.n)).setCell (p := ⟨w.heap.size + 1 + 1, 5, none⟩) (show w.heap.size ≤ w.heap.size + 1 + 1 by omega) (.string t.data)))
  have Nd11a := hid ((((Nd11.out.setOther (a := ⟨w.heap.size + 1 + 1, 3, none⟩) (show d1 ≠ w.heap.size + 1 + 1 by omega) (.int .i64 t.b1)).setOther (a := ⟨w.heap.size + 1 + 1, 4, none⟩) (show d1 ≠ w.heap.size + 1 + 1 by omega) (.slice (some ⟨d1, 0, none⟩) t.c1.n t.c1.n)).setOther (a := ⟨w.heap.size + 1 + 1, 5, none⟩) (show d1 ≠ w.heap.size + 1 + 1 by omega) (.string t.data)))
  obtain ⟨q0, q1, q2, q3, q4, q5, q6, q7, q8, q9⟩ := Q1.out.ten
  obtain ⟨s0, s1, s2, s3, s4, s5, s6, s7, s8, s9⟩ := S1.out.ten
  have qf := Q1.out.warm
  go_wp2_with fail
  generalize (((w1.setCell ⟨w.heap.size + 1 + 1, 3, none⟩ (.int .i64 t.b1)).setCell ⟨w.heap.size + 1 + 1, 4, none⟩ (.slice (some ⟨d1, 0, none⟩) t.c1.n t.c1.n)).setCell ⟨w.heap.size + 1 + 1, 5, none⟩ (.string t.data)) = V1 at *
  clear q0 q1 q2 q3 q4 q5 q6 q7 q8 q9 s0 s1 s2 s3 s4 s5 s6 s7 s8 s9 qf
  have l1 := Q1a.out.lt
  refine (toStringS_any _ _ _ t.items.f _ m3' (HT.out.2.1.2.1.below B1a.out)).mono ?_
  rintro e w2 ⟨rfl, r2, hb2⟩
  have Q2 := hid (Q1a.out.below hb2)
  have S2 := hid (S1a.out.below hb2)
  have R2 := hid (R1a.out.below hb2)
  have B2 := hid (then_ B1a.out hb2)
  have Nd12 := hid (rowUp Nd11a.out hb2)
  have Nd22 := hid r2
  have y2 := hb2.size
  clear Q1 S1 R1 B1 Q1a S1a R1a B1a Nd11 Nd11a r2 hb2
  generalize V1.heap.size = d2 at *
  have Q2a : Hid (Blk (w2.setCell ⟨w.heap.size + 1 + 1, 6, none⟩ (.slice (some ⟨d2, 0, none⟩) t.items.n t.items.n)) (w.heap.size + 1 + 1) (.cells #[.int .i64 t.id, .int .i64 t.kind, .int .i64 t.up, .int .i64 t.b1, .slice (some ⟨d1, 0, none⟩) t.c1.n t.c1.n, .string t.data, .slice (some ⟨d2, 0, none⟩) t.items.n t.items.n, .slice none 0 0, .int .i64 0, .slice none 0 0] 60)) := hid ((Q2.out.setAt _))
  have S2a := hid ((S2.out.other (Q := w.heap.size + 1 + 1) (i := 6) (by omega) (.slice (some ⟨d2, 0, none⟩) t.items.n t.items.n)))
  have R2a := hid ((R2.out.other (Q := w.heap.size + 1 + 1) (i := 6) (by omega) (.slice (some ⟨d2, 0, none⟩) t.items.n t.items.n)))
  have B2a := hid ((B2.out.setCell (p := ⟨w.heap.size + 1 + 1, 6, none⟩) (show w.heap.size ≤ w.heap.size + 1 + 1 by omega) (.slice (some ⟨d2, 0, none⟩) t.items.n t.items.n)))
  have Nd12a := hid ((Nd12.out.setOther (a := ⟨w.heap.size + 1 + 1, 6, none⟩) (show d1 ≠ w.heap.size + 1 + 1 by omega) (.slice (some ⟨d2, 0, none⟩) t.items.n t.items.n)))
  have Nd22a := hid ((Nd22.out.setOther (a := ⟨w.heap.size + 1 + 1, 6, none⟩) (show d2 ≠ w.heap.size + 1 + 1 by omega) (.slice (some ⟨d2, 0, none⟩) t.items.n t.items.n)))
  obtain ⟨q0, q1, q2, q3, q4, q5, q6, q7, q8, q9⟩ := Q2.out.ten
  obtain ⟨s0, s1, s2, s3, s4, s5, s6, s7, s8, s9⟩ := S2.out.ten
  have qf := Q2.out.warm
  go_wp2_with fail
  generalize (w2.setCell ⟨w.heap.size + 1 + 1, 6, none⟩ (.slice (some ⟨d2, 0, none⟩) t.items.n t.items.n)) = V2 at *
  clear q0 q1 q2 q3 q4 q5 q6 q7 q8 q9 s0 s1 s2 s3 s4 s5 s6 s7 s8 s9 qf
  have l2 := Q2a.out.lt
  refine (toInt64S_any _ _ _ t.own.h _ m4 (HT.out.2.2.1.2.below B2a.out)).mono ?_
  rintro e w3 ⟨rfl, r3, hb3⟩
  have Q3 := hid (Q2a.out.below hb3)
  have S3 := hid (S2a.out.below hb3)
  have R3 := hid (R2a.out.below hb3)
  have B3 := hid (then_ B2a.out hb3)
  have Nd13 := hid (rowUp Nd12a.out hb3)
  have Nd23 := hid (rowUp Nd22a.out hb3)
  have Nd33 := hid r3
  have y3 := hb3.size
  clear Q2 S2 R2 B2 Q2a S2a R2a B2a Nd12 Nd12a Nd22 Nd22a r3 hb3
  generalize V2.heap.size = d3 at *
  have Q3a : Hid (Blk (w3.setCell ⟨w.heap.size + 1 + 1, 7, none⟩ (.slice (some ⟨d3, 0, none⟩) t.own.n t.own.n)) (w.heap.size + 1 + 1) (.cells #[.int .i64 t.id, .int .i64 t.kind, .int .i64 t.up, .int .i64 t.b1, .slice (some ⟨d1, 0, none⟩) t.c1.n t.c1.n, .string t.data, .slice (some ⟨d2, 0, none⟩) t.items.n t.items.n, .slice (some ⟨d3, 0, none⟩) t.own.n t.own.n, .int .i64 0, .slice none 0 0] 60)) := hid ((Q3.out.setAt _))
  have S3a := hid ((S3.out.other (Q := w.heap.size + 1 + 1) (i := 7) (by omega) (.slice (some ⟨d3, 0, none⟩) t.own.n t.own.n)))
  have R3a := hid ((R3.out.other (Q := w.heap.size + 1 + 1) (i := 7) (by omega) (.slice (some ⟨d3, 0, none⟩) t.own.n t.own.n)))
  have B3a := hid ((B3.out.setCell (p := ⟨w.heap.size + 1 + 1, 7, none⟩) (show w.heap.size ≤ w.heap.size + 1 + 1 by omega) (.slice (some ⟨d3, 0, none⟩) t.own.n t.own.n)))
  have Nd13a := hid ((Nd13.out.setOther (a := ⟨w.heap.size + 1 + 1, 7, none⟩) (show d1 ≠ w.heap.size + 1 + 1 by omega) (.slice (some ⟨d3, 0, none⟩) t.own.n t.own.n)))
  have Nd23a := hid ((Nd23.out.setOther (a := ⟨w.heap.size + 1 + 1, 7, none⟩) (show d2 ≠ w.heap.size + 1 + 1 by omega) (.slice (some ⟨d3, 0, none⟩) t.own.n t.own.n)))
  have Nd33a := hid ((Nd33.out.setOther (a := ⟨w.heap.size + 1 + 1, 7, none⟩) (show d3 ≠ w.heap.size + 1 + 1 by omega) (.slice (some ⟨d3, 0, none⟩) t.own.n t.own.n)))
  obtain ⟨q0, q1, q2, q3, q4, q5, q6, q7, q8, q9⟩ := Q3.out.ten
  obtain ⟨s0, s1, s2, s3, s4, s5, s6, s7, s8, s9⟩ := S3.out.ten
  have qf := Q3.out.warm
  go_wp2_with fail
  generalize (w3.setCell ⟨w.heap.size + 1 + 1, 7, none⟩ (.slice (some ⟨d3, 0, none⟩) t.own.n t.own.n)) = V3 at *
  clear q0 q1 q2 q3 q4 q5 q6 q7 q8 q9 s0 s1 s2 s3 s4 s5 s6 s7 s8 s9 qf
  have l3 := Q3a.out.lt
  refine (toLabel_any _ _ _ _ t.c2.f t.c2.g _ m5 (HT.out.2.2.2.1.2.below B3a.out)).mono ?_
  rintro e w4 ⟨d4, rfl, g4, r4, hb4⟩
  have Q4 := hid (Q3a.out.below hb4)
  have S4 := hid (S3a.out.below hb4)
  have R4 := hid (R3a.out.below hb4)
  have B4 := hid (then_ B3a.out hb4)
  have Nd14 := hid (rowUp Nd13a.out hb4)
  have Nd24 := hid (rowUp Nd23a.out hb4)
  have Nd34 := hid (rowUp Nd33a.out hb4)
  have Nd44 := hid r4
  clear Q3 S3 R3 B3 Q3a S3a R3a B3a Nd13 Nd13a Nd23 Nd23a Nd33 Nd33a r4 hb4
  have Q4a : Hid (Blk ((w4.setCell ⟨w.heap.size + 1 + 1, 8, none⟩ (.int .i64 t.b2)).setCell ⟨w.heap.size + 1 + 1, 9, none⟩ (.slice (some ⟨d4, 0, none⟩) t.c2.n t.c2.n)) (w.heap.size + 1 + 1) (.cells #[.int .i64 t.id, .int .i64 t.kind, .int .i64 t.up, .int .i64 t.b1, .slice (some ⟨d1, 0, none⟩) t.c1.n t.c1.n, .string t.data, .slice (some ⟨d2, 0, none⟩) t.items.n t.items.n, .slice (some ⟨d3, 0, none⟩) t.own.n t.own.n, .int .i64 t.b2, .slice (some ⟨d4, 0, none⟩) t.c2.n t.c2.n] 60)) := hid (((Q4.out.setAt _).setAt _))
  have S4a := hid (((S4.out.other (Q := w.heap.size + 1 + 1) (i := 8) (by omega) (.int .i64 t.b2)).other (Q := w.heap.size + 1 + 1) (i := 9) (by omega) (.slice (some ⟨d4, 0, none⟩) t.c2.n t.c2.n)))
  have R4a := hid (((R4.out.other (Q := w.heap.size + 1 + 1) (i := 8) (by omega) (.int .i64 t.b2)).other (Q := w.heap.size + 1 + 1) (i := 9) (by omega) (.slice (some ⟨d4, 0, none⟩) t.c2.n t.c2.n)))
  have B4a := hid (((B4.out.setCell (p := ⟨w.heap.size + 1 + 1, 8, none⟩) (show w.heap.size ≤ w.heap.size + 1 + 1 by omega) (.int .i64 t.b2)).setCell (p := ⟨w.heap.size + 1 + 1, 9, none⟩) (show w.heap.size ≤ w.heap.size + 1 + 1 by omega) (.slice (some ⟨d4, 0, none⟩) t.c2.n t.c2.n)))
  have Nd14a := hid (((Nd14.out.setOther (a := ⟨w.heap.size + 1 + 1, 8, none⟩) (show d1 ≠ w.heap.size + 1 + 1 by omega) (.int .i64 t.b2)).setOther (a := ⟨w.heap.size + 1 + 1, 9, none⟩) (show d1 ≠ w.heap.size + 1 + 1 by omega) (.slice (some ⟨d4, 0, none⟩) t.c2.n t.c2.n)))
  have Nd24a := hid (((Nd24.out.setOther (a := ⟨w.heap.size + 1 + 1, 8, none⟩) (show d2 ≠ w.heap.size + 1 + 1 by omega) (.int .i64 t.b2)).setOther (a := ⟨w.heap.size + 1 + 1, 9, none⟩) (show d2 ≠ w.heap.size + 1 + 1 by omega) (.slice (some ⟨d4, 0, none⟩) t.c2.n t.c2.n)))
  have Nd34a := hid (((Nd34.out.setOther (a := ⟨w.heap.size + 1 + 1, 8, none⟩) (show d3 ≠ w.heap.size + 1 + 1 by omega) (.int .i64 t.b2)).setOther (a := ⟨w.heap.size + 1 + 1, 9, none⟩) (show d3 ≠ w.heap.size + 1 + 1 by omega) (.slice (some ⟨d4, 0, none⟩) t.c2.n t.c2.n)))
  have Nd44a := hid (((Nd44.out.setOther (a := ⟨w.heap.size + 1 + 1, 8, none⟩) (show d4 ≠ w.heap.size + 1 + 1 by omega) (.int .i64 t.b2)).setOther (a := ⟨w.heap.size + 1 + 1, 9, none⟩) (show d4 ≠ w.heap.size + 1 + 1 by omega) (.slice (some ⟨d4, 0, none⟩) t.c2.n t.c2.n)))
  obtain ⟨q0, q1, q2, q3, q4, q5, q6, q7, q8, q9⟩ := Q4.out.ten
  obtain ⟨s0, s1, s2, s3, s4, s5, s6, s7, s8, s9⟩ := S4.out.ten
  have qf := Q4.out.warm
  obtain ⟨t0, t1, t2, t3, t4, t5, t6, t7, t8, t9⟩ := R4.out.ten
  have tf := R4.out.warm
  have n1 : ¬ w.heap.size + 1 = w.heap.size + 1 + 1 := by omega
  have n2 : ¬ w.heap.size + 1 + 1 = w.heap.size + 1 := by omega
  go_wp2
  refine bodyPost_ret (results69 _ _ (w.heap.size + 1) (.int .i64 t.id) (.int .i64 t.kind) (.int .i64 t.up) (.int .i64 t.b1) (.slice (some ⟨d1, 0, none⟩) t.c1.n t.c1.n) (.string t.data) (.slice (some ⟨d2, 0, none⟩) t.items.n t.items.n) (.slice (some ⟨d3, 0, none⟩) t.own.n t.own.n) (.int .i64 t.b2) (.slice (some ⟨d4, 0, none⟩) t.c2.n t.c2.n) (R4a.out.all10 _ _ _ _ _ _ _ _ _ _) rfl) rfl ⟨d1, d2, d3, d4, rfl, ?_, ?_, ?_, ?_, ?_, by omega, by omega, by omega, by omega⟩
  · exact ((((((((((Nd14a.out.setOther (a := ⟨w.heap.size + 1, 0, none⟩) (show d1 ≠ w.heap.size + 1 by omega) _).setOther (a := ⟨w.heap.size + 1, 1, none⟩) (show d1 ≠ w.heap.size + 1 by omega) _).setOther (a := ⟨w.heap.size + 1, 2, none⟩) (show d1 ≠ w.heap.size + 1 by omega) _).setOther (a := ⟨w.heap.size + 1, 3, none⟩) (show d1 ≠ w.heap.size + 1 by omega) _).setOther (a := ⟨w.heap.size + 1, 4, none⟩) (show d1 ≠ w.heap.size + 1 by omega) _).setOther (a := ⟨w.heap.size + 1, 5, none⟩) (show d1 ≠ w.heap.size + 1 by omega) _).setOther (a := ⟨w.heap.size + 1, 6, none⟩) (show d1 ≠ w.heap.size + 1 by omega) _).setOther (a := ⟨w.heap.size + 1, 7, none⟩) (show d1 ≠ w.heap.size + 1 by omega) _).setOther (a := ⟨w.heap.size + 1, 8, none⟩) (show d1 ≠ w.heap.size + 1 by omega) _).setOther (a := ⟨w.heap.size + 1, 9, none⟩) (show d1 ≠ w.heap.size + 1 by omega) _)
  · exact ((((((((((Nd24a.out.setOther (a := ⟨w.heap.size + 1, 0, none⟩) (show d2 ≠ w.heap.size + 1 by omega) _).setOther (a := ⟨w.heap.size + 1, 1, none⟩) (show d2 ≠ w.heap.size + 1 by omega) _).setOther (a := ⟨w.heap.size + 1, 2, none⟩) (show d2 ≠ w.heap.size + 1 by omega) _).setOther (a := ⟨w.heap.size + 1, 3, none⟩) (show d2 ≠ w.heap.size + 1 by omega) _).setOther (a := ⟨w.heap.size + 1, 4, none⟩) (show d2 ≠ w.heap.size + 1 by omega) _).setOther (a := ⟨w.heap.size + 1, 5, none⟩) (show d2 ≠ w.heap.size + 1 by omega) _).setOther (a := ⟨w.heap.size + 1, 6, none⟩) (show d2 ≠ w.heap.size + 1 by omega) _).setOther (a := ⟨w.heap.size + 1, 7, none⟩) (show d2 ≠ w.heap.size + 1 by omega) _).setOther (a := ⟨w.heap.size + 1, 8, none⟩) (show d2 ≠ w.heap.size + 1 by omega) _).setOther (a := ⟨w.heap.size + 1, 9, none⟩) (show d2 ≠ w.heap.size + 1 by omega) _)
  · exact ((((((((((Nd34a.out.setOther (a := ⟨w.heap.size + 1, 0, none⟩) (show d3 ≠ w.heap.size + 1 by omega) _).setOther (a := ⟨w.heap.size + 1, 1, none⟩) (show d3 ≠ w.heap.size + 1 by omega) _).setOther (a := ⟨w.heap.size + 1, 2, none⟩) (show d3 ≠ w.heap.size + 1 by omega) _).setOther (a := ⟨w.heap.size + 1, 3, none⟩) (show d3 ≠ w.heap.size + 1 by omega) _).setOther (a := ⟨w.heap.size + 1, 4, none⟩) (show d3 ≠ w.heap.size + 1 by omega) _).setOther (a := ⟨w.heap.size + 1, 5, none⟩) (show d3 ≠ w.heap.size + 1 by omega) _).setOther (a := ⟨w.heap.size + 1, 6, none⟩) (show d3 ≠ w.heap.size + 1 by omega) _).setOther (a := ⟨w.heap.size + 1, 7, none⟩) (show d3 ≠ w.heap.size + 1 by omega) _).setOther (a := ⟨w.heap.size + 1, 8, none⟩) (show d3 ≠ w.heap.size + 1 by omega) _).setOther (a := ⟨w.heap.size + 1, 9, none⟩) (show d3 ≠ w.heap.size + 1 by omega) _)
  · exact ((((((((((Nd44a.out.setOther (a := ⟨w.heap.size + 1, 0, none⟩) (show d4 ≠ w.heap.size + 1 by omega) _).setOther (a := ⟨w.heap.size + 1, 1, none⟩) (show d4 ≠ w.heap.size + 1 by omega) _).setOther (a := ⟨w.heap.size + 1, 2, none⟩) (show d4 ≠ w.heap.size + 1 by omega) _).setOther (a := ⟨w.heap.size + 1, 3, none⟩) (show d4 ≠ w.heap.size + 1 by omega) _).setOther (a := ⟨w.heap.size + 1, 4, none⟩) (show d4 ≠ w.heap.size + 1 by omega) _).setOther (a := ⟨w.heap.size + 1, 5, none⟩) (show d4 ≠ w.heap.size + 1 by omega) _).setOther (a := ⟨w.heap.size + 1, 6, none⟩) (show d4 ≠ w.heap.size + 1 by omega) _).setOther (a := ⟨w.heap.size + 1, 7, none⟩) (show d4 ≠ w.heap.size + 1 by omega) _).setOther (a := ⟨w.heap.size + 1, 8, none⟩) (show d4 ≠ w.heap.size + 1 by omega) _).setOther (a := ⟨w.heap.size + 1, 9, none⟩) (show d4 ≠ w.heap.size + 1 by omega) _)
  · exact ((((((((((B4a.out.setCell (show w.heap.size ≤ w.heap.size + 1 by omega) _).setCell (show w.heap.size ≤ w.heap.size + 1 by omega) _).setCell (show w.heap.size ≤ w.heap.size + 1 by omega) _).setCell (show w.heap.size ≤ w.heap.size + 1 by omega) _).setCell (show w.heap.size ≤ w.heap.size + 1 by omega) _).setCell (show w.heap.size ≤ w.heap.size + 1 by omega) _).setCell (show w.heap.size ≤ w.heap.size + 1 by omega) _).setCell (show w.heap.size ≤ w.heap.size + 1 by omega) _).setCell (show w.heap.size ≤ w.heap.size + 1 by omega) _).setCell (show w.heap.size ≤ w.heap.size + 1 by omega) _)
end Go.Proofs.YtaaeeaknjlammaaGreatDoor

/- Kernels as they lie in memory: copies of rows of objects, and of kernels. -/
namespace Go.Proofs.YtaaeeaknjlammaaGreatDoor
open Go.RowKit Go.Deep

def StrL.same (c d : StrL) : Prop := d.n = c.n ∧ d.f = c.f
def ObjV.same (t u : ObjV) : Prop := u.id = t.id ∧ u.kind = t.kind ∧ u.up = t.up ∧ u.b1 = t.b1 ∧ t.c1.same u.c1 ∧ u.data = t.data ∧ t.items.same u.items ∧ t.own.same u.own ∧ u.b2 = t.b2 ∧ t.c2.same u.c2
def ObjV.row (w : World) (t : ObjV) : Prop := t.c1.row w ∧ t.items.row w ∧ t.own.row w ∧ t.c2.row w
theorem StrL.row.below {w w' : World} {c : StrL} (h : c.row w) (hb : Below w.heap.size w w') : c.row w' := by
  obtain ⟨b, e, hr⟩ := h
  exact ⟨b, e, rowUp hr hb⟩
theorem ObjV.row.below {w w' : World} {t : ObjV} (h : t.row w) (hb : Below w.heap.size w w') : t.row w' := ⟨CatL.row.below h.1 hb, StrL.row.below h.2.1 hb, IntL.row.below h.2.2.1 hb, CatL.row.below h.2.2.2 hb⟩
theorem ObjV.row.put {w : World} {t : ObjV} {P ty N : Nat} {G : Nat → Value} (h : t.row w) (hP : w.rowIs P ty N G) (h1 : ty ≠ 100) (h2 : ty ≠ 2) (h3 : ty ≠ 9) (i : Nat) (v : Value) : t.row (w.setCell ⟨P, i, none⟩ v) := by
  obtain ⟨⟨b1, e1, r1⟩, ⟨b2, e2, r2⟩, ⟨b3, e3, r3⟩, ⟨b4, e4, r4⟩⟩ := h
  exact ⟨⟨b1, e1, r1.setOther (row_ne r1 hP h1.symm) v⟩, ⟨b2, e2, r2.setOther (row_ne r2 hP h3.symm) v⟩, ⟨b3, e3, r3.setOther (row_ne r3 hP h2.symm) v⟩, ⟨b4, e4, r4.setOther (row_ne r4 hP h1.symm) v⟩⟩
def ObjV.since (B : Nat) (t : ObjV) : Prop := (∀ p, t.c1.a = some p → B ≤ p.block) ∧ (∀ p, t.items.a = some p → B ≤ p.block) ∧ (∀ p, t.own.a = some p → B ≤ p.block) ∧ (∀ p, t.c2.a = some p → B ≤ p.block)
theorem ObjV.since.low {B B' : Nat} {t : ObjV} (h : t.since B) (hB : B' ≤ B) : t.since B' := ⟨fun p e => Nat.le_trans hB (h.1 p e), fun p e => Nat.le_trans hB (h.2.1 p e), fun p e => Nat.le_trans hB (h.2.2.1 p e), fun p e => Nat.le_trans hB (h.2.2.2 p e)⟩
theorem toObject_v (t : ObjV) (w : World) (ht : t.at w) (hs : t.small) :
    Calls Tryz.prog 53 #[t.val] w fun e w' => ∃ u : ObjV, e = .returned u.val ∧ t.same u ∧ (u.row w' ∧ u.since w.heap.size) ∧ Below w.heap.size w w' := by
  refine (toObject_any t w ht hs).mono ?_
  rintro e w' ⟨d1, d2, d3, d4, rfl, r1, r2, r3, r4, hb, l1, l2, l3, l4⟩
  exact ⟨⟨t.id, t.kind, t.up, t.b1, ⟨some ⟨d1, 0, none⟩, t.c1.n, t.c1.n, t.c1.f, t.c1.g⟩, t.data, ⟨some ⟨d2, 0, none⟩, t.items.n, t.items.n, t.items.f⟩, ⟨some ⟨d3, 0, none⟩, t.own.n, t.own.n, t.own.h⟩, t.b2, ⟨some ⟨d4, 0, none⟩, t.c2.n, t.c2.n, t.c2.f, t.c2.g⟩⟩, rfl, ⟨rfl, rfl, rfl, rfl, ⟨rfl, rfl, rfl⟩, rfl, ⟨rfl, rfl⟩, ⟨rfl, rfl⟩, rfl, ⟨rfl, rfl, rfl⟩⟩, ⟨⟨⟨d1, rfl, r1⟩, ⟨d2, rfl, r2⟩, ⟨d3, rfl, r3⟩, ⟨d4, rfl, r4⟩⟩, ⟨fun p e => by cases e; exact l1, fun p e => by cases e; exact l2, fun p e => by cases e; exact l3, fun p e => by cases e; exact l4⟩⟩, hb⟩
structure G10 (G : Nat → Value) (o : Nat) (u : ObjV) : Prop where
  g0 : G (o) = .int .i64 u.id
  g1 : G (o + 1) = .int .i64 u.kind
  g2 : G (o + 2) = .int .i64 u.up
  g3 : G (o + 3) = .int .i64 u.b1
  g4 : G (o + 4) = u.c1.val
  g5 : G (o + 5) = .string u.data
  g6 : G (o + 6) = u.items.val
  g7 : G (o + 7) = u.own.val
  g8 : G (o + 8) = .int .i64 u.b2
  g9 : G (o + 9) = u.c2.val
theorem put10 {w : World} {b ty N : Nat} {G : Nat → Value} (hr : w.rowIs b ty N G) (o : Nat) (x0 x1 x2 x3 x4 x5 x6 x7 x8 x9 : Value) :
    ∃ G' : Nat → Value, ((((((((((w.setCell ⟨b, o, none⟩ x0).setCell ⟨b, o + 1, none⟩ x1).setCell ⟨b, o + 2, none⟩ x2).setCell ⟨b, o + 3, none⟩ x3).setCell ⟨b, o + 4, none⟩ x4).setCell ⟨b, o + 5, none⟩ x5).setCell ⟨b, o + 6, none⟩ x6).setCell ⟨b, o + 7, none⟩ x7).setCell ⟨b, o + 8, none⟩ x8).setCell ⟨b, o + 9, none⟩ x9).rowIs b ty N G' ∧ (G' (o) = x0 ∧ G' (o + 1) = x1 ∧ G' (o + 2) = x2 ∧ G' (o + 3) = x3 ∧ G' (o + 4) = x4 ∧ G' (o + 5) = x5 ∧ G' (o + 6) = x6 ∧ G' (o + 7) = x7 ∧ G' (o + 8) = x8 ∧ G' (o + 9) = x9) ∧ ∀ i, i < o → G' i = G i := by
  refine ⟨_, ((((((((((hr.set (o) x0).set (o + 1) x1).set (o + 2) x2).set (o + 3) x3).set (o + 4) x4).set (o + 5) x5).set (o + 6) x6).set (o + 7) x7).set (o + 8) x8).set (o + 9) x9), ⟨?_, ?_, ?_, ?_, ?_, ?_, ?_, ?_, ?_, ?_⟩, fun i hi => ?_⟩
  · simp
  · simp
  · simp
  · simp
  · simp
  · simp
  · simp
  · simp
  · simp
  · simp
  · rw [if_neg (by omega), if_neg (by omega), if_neg (by omega), if_neg (by omega), if_neg (by omega), if_neg (by omega), if_neg (by omega), if_neg (by omega), if_neg (by omega), if_neg (by omega)]
theorem ObjV.row.put10 {w : World} {t : ObjV} {P ty N : Nat} {G : Nat → Value} (h : t.row w) (hP : w.rowIs P ty N G) (h1 : ty ≠ 100) (h2 : ty ≠ 2) (h3 : ty ≠ 9) (o : Nat) (x0 x1 x2 x3 x4 x5 x6 x7 x8 x9 : Value) :
    t.row ((((((((((w.setCell ⟨P, o, none⟩ x0).setCell ⟨P, o + 1, none⟩ x1).setCell ⟨P, o + 2, none⟩ x2).setCell ⟨P, o + 3, none⟩ x3).setCell ⟨P, o + 4, none⟩ x4).setCell ⟨P, o + 5, none⟩ x5).setCell ⟨P, o + 6, none⟩ x6).setCell ⟨P, o + 7, none⟩ x7).setCell ⟨P, o + 8, none⟩ x8).setCell ⟨P, o + 9, none⟩ x9) := by
  have r0 := hP.set (o) x0
  have r1 := r0.set (o + 1) x1
  have r2 := r1.set (o + 2) x2
  have r3 := r2.set (o + 3) x3
  have r4 := r3.set (o + 4) x4
  have r5 := r4.set (o + 5) x5
  have r6 := r5.set (o + 6) x6
  have r7 := r6.set (o + 7) x7
  have r8 := r7.set (o + 8) x8
  exact (ObjV.row.put (ObjV.row.put (ObjV.row.put (ObjV.row.put (ObjV.row.put (ObjV.row.put (ObjV.row.put (ObjV.row.put (ObjV.row.put (ObjV.row.put h hP h1 h2 h3 (o) x0) r0 h1 h2 h3 (o + 1) x1) r1 h1 h2 h3 (o + 2) x2) r2 h1 h2 h3 (o + 3) x3) r3 h1 h2 h3 (o + 4) x4) r4 h1 h2 h3 (o + 5) x5) r5 h1 h2 h3 (o + 6) x6) r6 h1 h2 h3 (o + 7) x7) r7 h1 h2 h3 (o + 8) x8) r8 h1 h2 h3 (o + 9) x9)
theorem Tryz.info60 : (Tryz.prog.info? 60).map (fun i => (i.zero, i.size, i.bytes)) = some (some (.agg #[.int .i64 0, .int .i64 0, .int .i64 0, .int .i64 0, .slice none 0 0, .string ⟨#[]⟩, .slice none 0 0, .slice none 0 0, .int .i64 0, .slice none 0 0]), 10, 152) := by kernel_rfl
theorem run_make_obj (n : Nat) (hn : n ≤ 1048576) (w : World) :
    ∃ c : Array Value, c.size = n * 10 ∧ (Instr.makeSlice 33 (.int .i64 (n : Int)) (.int .i64 (n : Int))).run Tryz.prog w = .ok (.slice (some ⟨w.heap.size, 0, none⟩) n n) (w.alloc (.cells c 60)) := by
  obtain ⟨i, hi, hzz⟩ := Option.map_eq_some_iff.1 Tryz.info60
  simp only [Prod.mk.injEq] at hzz
  obtain ⟨hz, hs, hb⟩ := hzz
  have hr := run_make (P := Tryz.prog) w 33 60 i _ Tryz.underlying33 hi hz .i64 .i64 n n (by omega) (Int.le_refl _) (by rw [hb]; omega) (by omega)
  simp only [Int.toNat_natCast, hs] at hr
  exact ⟨_, size_madeCells _ _, hr⟩
def CopiedO (w : World) (N k : Nat) (T U : Nat → ObjV) (wr : World) : Prop :=
  ∃ G : Nat → Value, wr.rowIs w.heap.size 60 N G ∧ ∀ j, j < k → G10 G (j * 10) (U j) ∧ (T j).same (U j) ∧ (U j).row wr ∧ (U j).since w.heap.size

set_option maxRecDepth 100000 in
set_option maxHeartbeats 2000000 in
theorem toObjectS_any (a : Option Addr) (n cap : Nat) (T : Nat → ObjV) (w : World) (hn : n ≤ 1048576) (hT : ObjsAt w a n T) (hs : ∀ i, i < n → (T i).small) :
    Calls Tryz.prog 27 #[.slice a n cap] w fun e w' => e = .returned (.slice (some ⟨w.heap.size, 0, none⟩) n n) ∧ (∃ U, CopiedO w (n * 10) n T U w') ∧ Below w.heap.size w w' := by
  obtain ⟨c, hc7, hmk⟩ := run_make_obj n hn w
  have HT := hid hT
  have HS := hid hs
  have R0 : Hid ((w.alloc (.cells c 60)).rowIs w.heap.size 60 (n * 10) (fun i => c[i]?.getD undef)) := hid (by
    rw [← hc7]
    exact World.rowIs_alloc w c 60 _ (fun i hi => by simp [hi]))
  clear hT hs
  go_enter Tryz.func27, Tryz.ntmps27
  go_wp2
  go_loopw [4] (fun i wr => ∃ k : Nat, k ≤ n ∧ i = .int .i64 k ∧ (∃ U, CopiedO w (n * 10) k T U wr) ∧ Below w.heap.size w wr) (fun i _ => n - (intOf i).toNat)
  case atStart => exact ⟨0, Nat.zero_le _, rfl, ⟨T, _, R0.out, fun j hj => by omega⟩, (Below.refl _ _).alloc (Nat.le_refl _) _⟩
  case round =>
    obtain ⟨k, hk, rfl, ⟨U, G, hG, hU⟩, hB⟩ := hrel
    have UU := hid hU
    have GG := hid hG
    clear hmk R0 hU hG
    by_cases hlt : k < n
    · obtain ⟨b, off, rfl, hlt0, hc⟩ := HT.out.below hB (by omega)
      obtain ⟨q, ht⟩ := hc k hlt
      obtain ⟨q0, q1, q2, q3, q4, q5, q6, q7, q8, q9⟩ := q
      have i1 : (k : Int) < (n : Int) := by omega
      have SZ := hid (toObject_v (T k) wr ht (HS.out k hlt))
      unfold ObjV.val at SZ
      clear hc ht hlt0
      go_wp2_with fail
      refine SZ.out.mono ?_
      rintro e w2 ⟨u, rfl, us, ⟨ua, un⟩, hb2⟩
      have UL := hid (un.low hB.size)
      clear un
      have B2 := then_ hB hb2
      have G2 := hid (rowUp GG.out hb2)
      have U2 := hid (fun j (hj : j < k) => (⟨(UU.out j hj).1, (UU.out j hj).2.1, ObjV.row.below (UU.out j hj).2.2.1 hb2, (UU.out j hj).2.2.2⟩ : G10 G (j * 10) (U j) ∧ (T j).same (U j) ∧ (U j).row w2 ∧ (U j).since w.heap.size))
      have UA := hid ua
      clear q0 q1 q2 q3 q4 q5 q6 q7 q8 q9 SZ UU GG hb2 ua
      have z0 := G2.out.cell (i := k * 10) (by omega)
      have z1 := G2.out.cell (i := k * 10 + 1) (by omega)
      have z2 := G2.out.cell (i := k * 10 + 2) (by omega)
      have z3 := G2.out.cell (i := k * 10 + 3) (by omega)
      have z4 := G2.out.cell (i := k * 10 + 4) (by omega)
      have z5 := G2.out.cell (i := k * 10 + 5) (by omega)
      have z6 := G2.out.cell (i := k * 10 + 6) (by omega)
      have z7 := G2.out.cell (i := k * 10 + 7) (by omega)
      have z8 := G2.out.cell (i := k * 10 + 8) (by omega)
      have z9 := G2.out.cell (i := k * 10 + 9) (by omega)
      have zf := G2.out.frozen
      obtain ⟨G', hG', ⟨e0, e1, e2, e3, e4, e5, e6, e7, e8, e9⟩, hold⟩ := put10 G2.out (k * 10) (.int .i64 u.id) (.int .i64 u.kind) (.int .i64 u.up) (.int .i64 u.b1) (u.c1.val) (.string u.data) (u.items.val) (u.own.val) (.int .i64 u.b2) (u.c2.val)
      have GN := hid hG'
      have RU : Hid (∀ t : ObjV, t.row w2 → t.row _) := hid (fun t h => ObjV.row.put10 h G2.out (by decide) (by decide) (by decide) (k * 10) (.int .i64 u.id) (.int .i64 u.kind) (.int .i64 u.up) (.int .i64 u.b1) (u.c1.val) (.string u.data) (u.items.val) (u.own.val) (.int .i64 u.b2) (u.c2.val))
      have UN : Hid (∀ j, j < k + 1 → G10 G' (j * 10) (if j = k then u else U j) ∧ (T j).same (if j = k then u else U j) ∧ (if j = k then u else U j).row w2 ∧ (if j = k then u else U j).since w.heap.size) := hid (fun j hj => by
        by_cases e : j = k
        · subst e
          rw [if_pos rfl]
          exact ⟨⟨e0, e1, e2, e3, e4, e5, e6, e7, e8, e9⟩, us, UA.out, UL.out⟩
        · rw [if_neg e]
          obtain ⟨⟨g0, g1, g2, g3, g4, g5, g6, g7, g8, g9⟩, o2, o3⟩ := U2.out j (by omega)
          exact ⟨⟨(hold _ (by omega)).trans g0, (hold _ (by omega)).trans g1, (hold _ (by omega)).trans g2, (hold _ (by omega)).trans g3, (hold _ (by omega)).trans g4, (hold _ (by omega)).trans g5, (hold _ (by omega)).trans g6, (hold _ (by omega)).trans g7, (hold _ (by omega)).trans g8, (hold _ (by omega)).trans g9⟩, o2, o3⟩)
      clear e0 e1 e2 e3 e4 e5 e6 e7 e8 e9 hold hG' us
      unfold CatL.val IntL.val StrL.val
      go_wp2
      refine ⟨⟨k + 1, by omega, by go_num, ⟨fun j => if j = k then u else U j, G', GN.out, fun j hj => ⟨(UN.out j hj).1, (UN.out j hj).2.1, RU.out _ (UN.out j hj).2.2.1, (UN.out j hj).2.2.2⟩⟩, ?_⟩, by simp [intOf]; omega⟩
      exact ((((((((((B2.setCell (Nat.le_refl _) _).setCell (Nat.le_refl _) _).setCell (Nat.le_refl _) _).setCell (Nat.le_refl _) _).setCell (Nat.le_refl _) _).setCell (Nat.le_refl _) _).setCell (Nat.le_refl _) _).setCell (Nat.le_refl _) _).setCell (Nat.le_refl _) _).setCell (Nat.le_refl _) _)
    · go_wp2
      go_ret
      have e : k = n := by omega
      subst e
      exact ⟨rfl, ⟨U, G, GG.out, UU.out⟩, hB⟩
end Go.Proofs.YtaaeeaknjlammaaGreatDoor

/- Kernels as they lie in memory: the copy of a kernel. -/
namespace Go.Proofs.YtaaeeaknjlammaaGreatDoor
open Go.RowKit Go.Deep

/-- rows of threads and of objects of their own -/
def ThrRow (w : World) (a : Option Addr) (n : Nat) (T : Nat → ThrV) : Prop := ∃ b G, a = some ⟨b, 0, none⟩ ∧ w.rowIs b 54 (n * 7) G ∧ ∀ j, j < n → G7 G (j * 7) (T j) ∧ (T j).row w
def ObjRow (w : World) (a : Option Addr) (n : Nat) (T : Nat → ObjV) : Prop := ∃ b G, a = some ⟨b, 0, none⟩ ∧ w.rowIs b 60 (n * 10) G ∧ ∀ j, j < n → G10 G (j * 10) (T j) ∧ (T j).row w
theorem ThrRow.below {w w' : World} {a : Option Addr} {n : Nat} {T : Nat → ThrV} (h : ThrRow w a n T) (hb : Below w.heap.size w w') : ThrRow w' a n T := by
  obtain ⟨b, G, e, hr, hj⟩ := h
  exact ⟨b, G, e, rowUp hr hb, fun j h => ⟨(hj j h).1, ThrV.row.below (hj j h).2 hb⟩⟩
theorem ObjRow.below {w w' : World} {a : Option Addr} {n : Nat} {T : Nat → ObjV} (h : ObjRow w a n T) (hb : Below w.heap.size w w') : ObjRow w' a n T := by
  obtain ⟨b, G, e, hr, hj⟩ := h
  exact ⟨b, G, e, rowUp hr hb, fun j h => ⟨(hj j h).1, ObjV.row.below (hj j h).2 hb⟩⟩
theorem ThrRow.put {w : World} {a : Option Addr} {n : Nat} {T : Nat → ThrV} {P ty N : Nat} {G : Nat → Value} (h : ThrRow w a n T) (hP : w.rowIs P ty N G) (h1 : ty ≠ 100) (h2 : ty ≠ 2) (h4 : ty ≠ 54) (i : Nat) (v : Value) : ThrRow (w.setCell ⟨P, i, none⟩ v) a n T := by
  obtain ⟨b, G', e, hr, hj⟩ := h
  exact ⟨b, G', e, hr.setOther (row_ne hr hP h4.symm) v, fun j h => ⟨(hj j h).1, ThrV.row.put (hj j h).2 hP h1 h2 i v⟩⟩
theorem ObjRow.put {w : World} {a : Option Addr} {n : Nat} {T : Nat → ObjV} {P ty N : Nat} {G : Nat → Value} (h : ObjRow w a n T) (hP : w.rowIs P ty N G) (h1 : ty ≠ 100) (h2 : ty ≠ 2) (h3 : ty ≠ 9) (h4 : ty ≠ 60) (i : Nat) (v : Value) : ObjRow (w.setCell ⟨P, i, none⟩ v) a n T := by
  obtain ⟨b, G', e, hr, hj⟩ := h
  exact ⟨b, G', e, hr.setOther (row_ne hr hP h4.symm) v, fun j h => ⟨(hj j h).1, ObjV.row.put (hj j h).2 hP h1 h2 h3 i v⟩⟩
theorem Blk.row {W : World} {P t : Nat} {cs : Array Value} (h : Blk W P (.cells cs t)) : W.rowIs P t cs.size (fun i => cs[i]?.getD undef) := ⟨cs, h, rfl, fun i hi => by simp [hi]⟩
def KerV.same (k l : KerV) : Prop := l.tn = k.tn ∧ (∀ j, j < k.tn → (k.T j).same (l.T j)) ∧ l.on = k.on ∧ (∀ j, j < k.on → (k.O j).same (l.O j))
def KerV.row (w : World) (k : KerV) : Prop := ThrRow w k.ta k.tn k.T ∧ ObjRow w k.oa k.on k.O
def KerV.since (B : Nat) (k : KerV) : Prop := (∀ p, k.ta = some p → B ≤ p.block) ∧ (∀ j, j < k.tn → (k.T j).since B) ∧ (∀ p, k.oa = some p → B ≤ p.block) ∧ (∀ j, j < k.on → (k.O j).since B)
theorem results10 (tmps : Array Value) (W : World) (P : Nat) (x y : Value) (h : Blk W P (.cells #[x, y] 35)) (h2 : tmps[2]? = some (.pointer (some ⟨P, 0, none⟩))) :
    (results Tryz.f8 tmps).run Tryz.prog W = .ok (.agg #[x, y]) W := by
  obtain ⟨z0, z1⟩ := h.two
  simp [results, Tryz.results8, go_sem, h2, z0, z1]

set_option maxRecDepth 100000 in
set_option maxHeartbeats 4000000 in
theorem toKernel_any (k : KerV) (w : World) (hk : k.at w) (hs : k.small) :
    Calls Tryz.prog 8 #[k.val] w fun e w' => ∃ l : KerV, e = .returned l.val ∧ k.same l ∧ l.ok = l.on ∧ (l.row w' ∧ l.since w.heap.size) ∧ Below w.heap.size w w' := by
  have HK := hid hk
  obtain ⟨⟨n1, s1⟩, ⟨n2, s2⟩⟩ := hs
  have H1 := hid s1
  have H2 := hid s2
  clear hk s1 s2
  have S0 : Hid (Blk (((w.alloc (.cells #[.slice k.ta k.tn k.tk, .slice k.oa k.on k.ok] 25)).alloc (.cells #[.slice none 0 0, .slice none 0 0] 35)).alloc (.cells #[.slice none 0 0, .slice none 0 0] 35)) w.heap.size (.cells #[.slice k.ta k.tn k.tk, .slice k.oa k.on k.ok] 25)) := hid (((Blk.new w _).alloc _).alloc _)
  have R0 : Hid (Blk (((w.alloc (.cells #[.slice k.ta k.tn k.tk, .slice k.oa k.on k.ok] 25)).alloc (.cells #[.slice none 0 0, .slice none 0 0] 35)).alloc (.cells #[.slice none 0 0, .slice none 0 0] 35)) (w.heap.size + 1) (.cells #[.slice none 0 0, .slice none 0 0] 35)) := by
    have := (Blk.new (w.alloc (.cells #[.slice k.ta k.tn k.tk, .slice k.oa k.on k.ok] 25)) (.cells #[.slice none 0 0, .slice none 0 0] 35)).alloc (.cells #[.slice none 0 0, .slice none 0 0] 35)
    refine hid ?_
    simpa using this
  have Q0 : Hid (Blk (((w.alloc (.cells #[.slice k.ta k.tn k.tk, .slice k.oa k.on k.ok] 25)).alloc (.cells #[.slice none 0 0, .slice none 0 0] 35)).alloc (.cells #[.slice none 0 0, .slice none 0 0] 35)) (w.heap.size + 1 + 1) (.cells #[.slice none 0 0, .slice none 0 0] 35)) := by
    have := Blk.new ((w.alloc (.cells #[.slice k.ta k.tn k.tk, .slice k.oa k.on k.ok] 25)).alloc (.cells #[.slice none 0 0, .slice none 0 0] 35)) (.cells #[.slice none 0 0, .slice none 0 0] 35)
    refine hid ?_
    simpa using this
  have B0 : Hid (Below w.heap.size w (((w.alloc (.cells #[.slice k.ta k.tn k.tk, .slice k.oa k.on k.ok] 25)).alloc (.cells #[.slice none 0 0, .slice none 0 0] 35)).alloc (.cells #[.slice none 0 0, .slice none 0 0] 35))) := hid ((((Below.refl _ w).alloc (Nat.le_refl _) _).alloc (by simp) _).alloc (by simp; omega) _)
  unfold KerV.val
  go_enter Tryz.func8, Tryz.ntmps8
  go_wp2_with fail
  generalize (((w.alloc (.cells #[.slice k.ta k.tn k.tk, .slice k.oa k.on k.ok] 25)).alloc (.cells #[.slice none 0 0, .slice none 0 0] 35)).alloc (.cells #[.slice none 0 0, .slice none 0 0] 35)) = V0 at *
  refine (toThreadS_any _ _ _ k.T _ n1 (HK.out.2.2.1.below B0.out) H1.out).mono ?_
  rintro e w1 ⟨rfl, ⟨U, G, hG, hU⟩, hb1⟩
  have T1 : Hid (ThrRow w1 (some ⟨V0.heap.size, 0, none⟩) k.tn U) := hid ⟨_, G, rfl, hG, fun j h => ⟨(hU j h).1, (hU j h).2.2.1⟩⟩
  have L1 : Hid (∀ j, j < k.tn → (U j).since w.heap.size) := hid (fun j h => (hU j h).2.2.2.low B0.out.size)
  have l1 := B0.out.size
  have E1 : Hid (∀ j, j < k.tn → (k.T j).same (U j)) := hid (fun j h => (hU j h).2.1)
  have Q1 := hid (Q0.out.below hb1)
  have S1 := hid (S0.out.below hb1)
  have R1 := hid (R0.out.below hb1)
  have B1 := hid (then_ B0.out hb1)
  clear hG hU hb1 Q0 S0 R0 B0
  generalize V0.heap.size = g1 at *
  obtain ⟨q0, q1⟩ := Q1.out.two
  obtain ⟨p0, p1⟩ := S1.out.two
  have qf := Q1.out.warm
  have Q2 : Hid (Blk (w1.setCell ⟨w.heap.size + 1 + 1, 0, none⟩ (.slice (some ⟨g1, 0, none⟩) k.tn k.tn)) (w.heap.size + 1 + 1) (.cells #[.slice (some ⟨g1, 0, none⟩) k.tn k.tn, .slice none 0 0] 35)) := hid (Q1.out.setAt _)
  have S2 := hid (S1.out.other (Q := w.heap.size + 1 + 1) (i := 0) (by omega) (.slice (some ⟨g1, 0, none⟩) k.tn k.tn))
  have R2 := hid (R1.out.other (Q := w.heap.size + 1 + 1) (i := 0) (by omega) (.slice (some ⟨g1, 0, none⟩) k.tn k.tn))
  have T2 := hid (ThrRow.put T1.out Q1.out.row (by decide) (by decide) (by decide) 0 (.slice (some ⟨g1, 0, none⟩) k.tn k.tn))
  have B2 := hid (B1.out.setCell (p := ⟨w.heap.size + 1 + 1, 0, none⟩) (show w.heap.size ≤ w.heap.size + 1 + 1 by omega) (.slice (some ⟨g1, 0, none⟩) k.tn k.tn))
  go_wp2_with fail
  generalize w1.setCell ⟨w.heap.size + 1 + 1, 0, none⟩ (.slice (some ⟨g1, 0, none⟩) k.tn k.tn) = V1 at *
  clear q0 q1 p0 p1 qf Q1 S1 R1 T1 B1
  refine (toObjectS_any _ _ _ k.O _ n2 (HK.out.2.2.2.below B2.out) H2.out).mono ?_
  rintro e w2 ⟨rfl, ⟨X, G', hG, hU⟩, hb2⟩
  have O3 : Hid (ObjRow w2 (some ⟨V1.heap.size, 0, none⟩) k.on X) := hid ⟨_, G', rfl, hG, fun j h => ⟨(hU j h).1, (hU j h).2.2.1⟩⟩
  have L2 : Hid (∀ j, j < k.on → (X j).since w.heap.size) := hid (fun j h => (hU j h).2.2.2.low B2.out.size)
  have l2 := B2.out.size
  have E2 : Hid (∀ j, j < k.on → (k.O j).same (X j)) := hid (fun j h => (hU j h).2.1)
  have Q3 := hid (Q2.out.below hb2)
  have R3 := hid (R2.out.below hb2)
  have T3 := hid (T2.out.below hb2)
  have B3 := hid (then_ B2.out hb2)
  clear hG hU hb2 Q2 S2 R2 T2 B2
  generalize V1.heap.size = g2 at *
  obtain ⟨q0, q1⟩ := Q3.out.two
  obtain ⟨p0, p1⟩ := R3.out.two
  have qf := Q3.out.warm
  have pf := R3.out.warm
  have ne1 : ¬ w.heap.size + 1 = w.heap.size + 1 + 1 := by omega
  have ne2 : ¬ w.heap.size + 1 + 1 = w.heap.size + 1 := by omega
  have R4 := hid (R3.out.other (Q := w.heap.size + 1 + 1) (i := 1) (by omega) (.slice (some ⟨g2, 0, none⟩) k.on k.on))
  have T4 := hid (ThrRow.put T3.out Q3.out.row (by decide) (by decide) (by decide) 1 (.slice (some ⟨g2, 0, none⟩) k.on k.on))
  have O4 := hid (ObjRow.put O3.out Q3.out.row (by decide) (by decide) (by decide) (by decide) 1 (.slice (some ⟨g2, 0, none⟩) k.on k.on))
  have B4 := hid (B3.out.setCell (p := ⟨w.heap.size + 1 + 1, 1, none⟩) (show w.heap.size ≤ w.heap.size + 1 + 1 by omega) (.slice (some ⟨g2, 0, none⟩) k.on k.on))
  have R5 := hid (R4.out.setAt (i := 0) (.slice (some ⟨g1, 0, none⟩) k.tn k.tn))
  have T5 := hid (ThrRow.put T4.out R4.out.row (by decide) (by decide) (by decide) 0 (.slice (some ⟨g1, 0, none⟩) k.tn k.tn))
  have O5 := hid (ObjRow.put O4.out R4.out.row (by decide) (by decide) (by decide) (by decide) 0 (.slice (some ⟨g1, 0, none⟩) k.tn k.tn))
  have T6 := hid (ThrRow.put T5.out R5.out.row (by decide) (by decide) (by decide) 1 (.slice (some ⟨g2, 0, none⟩) k.on k.on))
  have O6 := hid (ObjRow.put O5.out R5.out.row (by decide) (by decide) (by decide) (by decide) 1 (.slice (some ⟨g2, 0, none⟩) k.on k.on))
  go_wp2
  refine bodyPost_ret (results10 _ _ (w.heap.size + 1) (.slice (some ⟨g1, 0, none⟩) k.tn k.tn) (.slice (some ⟨g2, 0, none⟩) k.on k.on) (R5.out.setAt (i := 1) _) rfl) rfl ⟨⟨some ⟨g1, 0, none⟩, k.tn, k.tn, U, some ⟨g2, 0, none⟩, k.on, k.on, X⟩, rfl, ⟨rfl, E1.out, rfl, E2.out⟩, rfl, ⟨⟨T6.out, O6.out⟩, ⟨fun p e => by cases e; exact l1, L1.out, fun p e => by cases e; exact l2, L2.out⟩⟩, ?_⟩
  exact (B4.out.setCell (show w.heap.size ≤ w.heap.size + 1 by omega) _).setCell (show w.heap.size ≤ w.heap.size + 1 by omega) _
end Go.Proofs.YtaaeeaknjlammaaGreatDoor

/- Kernels as they lie in memory: what is copied lies there; what is the same is as small. -/
namespace Go.Proofs.YtaaeeaknjlammaaGreatDoor
open Go.RowKit Go.Deep

theorem StrL.row.at {w : World} {c : StrL} (h : c.row w) (hs : c.small) : c.at w := by
  obtain ⟨b, e, hr⟩ := h
  refine ⟨by unfold maxLen; have := hs.1; omega, fun _ => ⟨b, 0, e, hr.lt, fun i hi => ?_⟩, fun i hi => by unfold maxLen; have := hs.2 i hi; omega⟩
  rw [Nat.zero_add]
  exact hr.cell hi
theorem ObjV.row.at {w : World} {t : ObjV} (h : t.row w) (hs : t.small) : t.at w := by
  obtain ⟨⟨b1, e1, r1⟩, r2, ⟨b3, e3, r3⟩, ⟨b4, e4, r4⟩⟩ := h
  obtain ⟨s1, s2, s3, s4, s5⟩ := hs
  refine ⟨⟨by unfold maxLen; omega, ?_⟩, StrL.row.at r2 s3, ⟨by unfold maxLen; omega, ?_⟩, ⟨by unfold maxLen; omega, ?_⟩, by unfold maxLen; omega⟩
  · rw [e1]; exact CatsAt.row r1
  · rw [e3]; exact IntsAt.row r3
  · rw [e4]; exact CatsAt.row r4
theorem ThrV.same.small {t u : ThrV} (h : t.same u) (hs : t.small) : u.small := by
  obtain ⟨_, _, ⟨e1, _⟩, _, ⟨e2, _⟩, ⟨e3, _⟩, _⟩ := h
  unfold ThrV.small at *
  rw [e1, e2, e3]
  exact hs
theorem ObjV.same.small {t u : ObjV} (h : t.same u) (hs : t.small) : u.small := by
  obtain ⟨_, _, _, _, ⟨e1, _⟩, e2, ⟨e3, e4⟩, ⟨e5, _⟩, _, ⟨e6, _⟩⟩ := h
  unfold ObjV.small StrL.small at *
  rw [e1, e2, e3, e4, e5, e6]
  exact hs
theorem KerV.same.small {k l : KerV} (h : k.same l) (hs : k.small) : l.small := by
  obtain ⟨e1, h1, e2, h2⟩ := h
  obtain ⟨⟨n1, s1⟩, ⟨n2, s2⟩⟩ := hs
  unfold KerV.small
  rw [e1, e2]
  exact ⟨⟨n1, fun i hi => ThrV.same.small (h1 i hi) (s1 i hi)⟩, ⟨n2, fun i hi => ObjV.same.small (h2 i hi) (s2 i hi)⟩⟩
theorem G10.cells {w : World} {b ty N : Nat} {G : Nat → Value} {o : Nat} {t : ObjV} (hr : w.rowIs b ty N G) (h : G10 G o t) (ho : o + 10 ≤ N) : Cells10 w b o t :=
  ⟨(hr.cell (by omega)).trans (congrArg some h.g0), (hr.cell (by omega)).trans (congrArg some h.g1), (hr.cell (by omega)).trans (congrArg some h.g2), (hr.cell (by omega)).trans (congrArg some h.g3), (hr.cell (by omega)).trans (congrArg some h.g4), (hr.cell (by omega)).trans (congrArg some h.g5), (hr.cell (by omega)).trans (congrArg some h.g6), (hr.cell (by omega)).trans (congrArg some h.g7), (hr.cell (by omega)).trans (congrArg some h.g8), (hr.cell (by omega)).trans (congrArg some h.g9)⟩
theorem ThrRow.at {w : World} {a : Option Addr} {n : Nat} {T : Nat → ThrV} (h : ThrRow w a n T) (hs : ∀ i, i < n → (T i).small) : ThrsAt w a n T := fun _ => by
  obtain ⟨b, G, e, hr, hj⟩ := h
  refine ⟨b, 0, e, hr.lt, fun i hi => ⟨?_, ThrV.row.at (hj i hi).2 (hs i hi)⟩⟩
  rw [Nat.zero_add]
  exact G7.cells hr (hj i hi).1 (by omega)
theorem ObjRow.at {w : World} {a : Option Addr} {n : Nat} {T : Nat → ObjV} (h : ObjRow w a n T) (hs : ∀ i, i < n → (T i).small) : ObjsAt w a n T := fun _ => by
  obtain ⟨b, G, e, hr, hj⟩ := h
  refine ⟨b, 0, e, hr.lt, fun i hi => ⟨?_, ObjV.row.at (hj i hi).2 (hs i hi)⟩⟩
  rw [Nat.zero_add]
  exact G10.cells hr (hj i hi).1 (by omega)
theorem KerV.row.at {w : World} {k : KerV} (h : k.row w) (hs : k.small) : k.at w :=
  ⟨by unfold maxLen; have := hs.1.1; omega, by unfold maxLen; have := hs.2.1; omega, ThrRow.at h.1 hs.1.2, ObjRow.at h.2 hs.2.2⟩

/-- two threads that are the same compare equal -/
theorem eqThread_v (t u : ThrV) (w : World) (ht : t.at w) (hu : u.at w) (h : t.same u) :
    Calls Tryz.prog 63 #[t.val, u.val] w fun e w' => e = .returned (.bool true) ∧ Below w.heap.size w w' := by
  obtain ⟨id, b1, ⟨a1, n1, k1, f1, g1⟩, b2, ⟨a2, n2, k2, f2, g2⟩, ⟨a3, n3, k3, h3⟩, m⟩ := t
  obtain ⟨id', b1', ⟨a1', n1', k1', f1', g1'⟩, b2', ⟨a2', n2', k2', f2', g2'⟩, ⟨a3', n3', k3', h3'⟩, m'⟩ := u
  obtain ⟨e1, e2, ⟨e3, e4, e5⟩, e6, ⟨e7, e8, e9⟩, ⟨e10, e11⟩, e12⟩ := h
  simp only at e1 e2 e3 e4 e5 e6 e7 e8 e9 e10 e11 e12
  subst e1 e2 e3 e4 e5 e6 e7 e8 e9 e10 e11 e12
  exact eqThread_true _ _ _ _ _ _ f1' g1' _ _ _ _ f2' g2' _ _ _ h3' _ _ _ _ _ _ w ht.1.1 ht.2.1.1 ht.2.2.1 ht.1.2 ht.2.1.2 ht.2.2.2 hu.1.2 hu.2.1.2 hu.2.2.2
end Go.Proofs.YtaaeeaknjlammaaGreatDoor

/- Kernels as they lie in memory: rows of threads that are the same compare equal. -/
namespace Go.Proofs.YtaaeeaknjlammaaGreatDoor
open Go.RowKit Go.Deep

set_option maxRecDepth 100000 in
set_option maxHeartbeats 2000000 in
theorem eqThreadS_any (a a' : Option Addr) (n cap cap' : Nat) (T U : Nat → ThrV) (w : World) (hn : n ≤ maxLen) (hT : ThrsAt w a n T) (hU : ThrsAt w a' n U) (hs : ∀ i, i < n → (T i).same (U i)) :
    Calls Tryz.prog 39 #[.slice a n cap, .slice a' n cap'] w fun e w' => e = .returned (.bool true) ∧ Below w.heap.size w w' := by
  unfold maxLen at hn
  have HT := hid hT
  have HU := hid hU
  have HS := hid hs
  clear hT hU hs
  go_enter Tryz.func39, Tryz.ntmps39
  go_wp2
  go_loopw [5] (fun i wr => ∃ k : Nat, k ≤ n ∧ i = .int .i64 k ∧ Below w.heap.size w wr) (fun i _ => n - (intOf i).toNat)
  case atStart => exact ⟨0, Nat.zero_le _, rfl, Below.refl _ _⟩
  case round =>
    obtain ⟨k, hk, rfl, hB⟩ := hrel
    by_cases hlt' : k < n
    · obtain ⟨b, off, rfl, hl1, hc⟩ := HT.out.below hB (by omega)
      obtain ⟨b', off', rfl, hl2, hc'⟩ := HU.out.below hB (by omega)
      obtain ⟨q, qa⟩ := hc k hlt'
      obtain ⟨r, ra⟩ := hc' k hlt'
      have Q := hid (show Cells7 wr.drew b (off + k * 7) (T k) from ⟨q.c0, q.c1, q.c2, q.c3, q.c4, q.c5, q.c6⟩)
      have R := hid (show Cells7 wr.drew b' (off' + k * 7) (U k) from ⟨r.c0, r.c1, r.c2, r.c3, r.c4, r.c5, r.c6⟩)
      have EQ := hid (eqThread_v (T k) (U k) wr.drew (qa.below (Below.refl _ wr).drew) (ra.below (Below.refl _ wr).drew) (HS.out k hlt'))
      unfold ThrV.val at EQ
      obtain ⟨g0, g1, g2, g3, g4, g5, g6⟩ := q
      obtain ⟨h0, h1, h2, h3, h4, h5, h6⟩ := r
      have i0 : (0 : Int) ≤ (k : Int) := by omega
      have i1 : (k : Int) < (n : Int) := by omega
      have hl1' : b < wr.drew.heap.size := hl1
      have hl2' : b' < wr.drew.heap.size := hl2
      clear hc hc' qa ra
      go_wp2_with fail
      go_region_held3 (fun w' => w'.cell? ⟨b, off + k * 7, none⟩ = some (.int .i64 (T k).id) ∧ w'.cell? ⟨b, off + k * 7 + 1, none⟩ = some (.int .i64 (T k).b1) ∧ w'.cell? ⟨b, off + k * 7 + 2, none⟩ = some ((T k).c1.val) ∧ w'.cell? ⟨b, off + k * 7 + 3, none⟩ = some (.int .i64 (T k).b2) ∧ w'.cell? ⟨b, off + k * 7 + 4, none⟩ = some ((T k).c2.val) ∧ w'.cell? ⟨b, off + k * 7 + 5, none⟩ = some ((T k).own.val) ∧ w'.cell? ⟨b, off + k * 7 + 6, none⟩ = some (.int .i64 (T k).made) ∧ w'.cell? ⟨b', off' + k * 7, none⟩ = some (.int .i64 (U k).id) ∧ w'.cell? ⟨b', off' + k * 7 + 1, none⟩ = some (.int .i64 (U k).b1) ∧ w'.cell? ⟨b', off' + k * 7 + 2, none⟩ = some ((U k).c1.val) ∧ w'.cell? ⟨b', off' + k * 7 + 3, none⟩ = some (.int .i64 (U k).b2) ∧ w'.cell? ⟨b', off' + k * 7 + 4, none⟩ = some ((U k).c2.val) ∧ w'.cell? ⟨b', off' + k * 7 + 5, none⟩ = some ((U k).own.val) ∧ w'.cell? ⟨b', off' + k * 7 + 6, none⟩ = some (.int .i64 (U k).made)) (go_keep)
        (first | (go_at_call 63; refine EQ.out.mono ?_; rintro e w1 ⟨rfl, hb1⟩; obtain ⟨p0, p1, p2, p3, p4, p5, p6⟩ := Q.out.below hl1' hb1; obtain ⟨q0, q1, q2, q3, q4, q5, q6⟩ := R.out.below hl2' hb1))
      have hB1 : Below w.heap.size w w1 := hB.drew.trans (hb1.mono hB.size)
      clear g0 g1 g2 g3 g4 g5 g6 h0 h1 h2 h3 h4 h5 h6 p0 p1 p2 p3 p4 p5 p6 q0 q1 q2 q3 q4 q5 q6 hb1
      go_wp2
      go_roundw
      case rel => exact ⟨k + 1, by omega, by go_num, hB1⟩
      case measure => simp [intOf]; omega
    · go_wp2
      go_ret
      exact ⟨rfl, hB⟩
set_option maxRecDepth 100000 in
set_option maxHeartbeats 1000000 in
theorem eqStringS_true (a a' : Option Addr) (n cap cap' : Nat) (f : Nat → ByteArray) (w : World) (hn : n ≤ maxLen) (hc : StrAt w a n f) (hc' : StrAt w a' n f) :
    Calls Tryz.prog 87 #[.slice a n cap, .slice a' n cap'] w fun e w' => e = .returned (.bool true) ∧ Below w.heap.size w w' := by
  unfold maxLen at hn
  go_enter Tryz.func87, Tryz.ntmps87
  go_wp2
  go_loopw [5] (fun i wr => ∃ k : Nat, k ≤ n ∧ i = .int .i64 k ∧ Below w.heap.size w wr) (fun i _ => n - (intOf i).toNat)
  case atStart => exact ⟨0, Nat.zero_le _, rfl, Below.refl _ _⟩
  case round =>
    obtain ⟨k, hk, rfl, hB⟩ := hrel
    by_cases hlt' : k < n
    · obtain ⟨b, off, rfl, hlt, hc⟩ := hc (by omega)
      obtain ⟨b', off', rfl, hlt2, hc'⟩ := hc' (by omega)
      have g1 : wr.cell? ⟨b, off + k, none⟩ = some (.string (f k)) := (hB.cell (p := ⟨b, _, none⟩) hlt).trans (hc k hlt')
      have g2 : wr.cell? ⟨b', off' + k, none⟩ = some (.string (f k)) := (hB.cell (p := ⟨b', _, none⟩) hlt2).trans (hc' k hlt')
      clear hc hc'
      have i0 : (0 : Int) ≤ (k : Int) := by omega
      have i1 : (k : Int) < (n : Int) := by omega
      go_wp2_with fail
      go_quiet (fail)
      go_wp2
      go_roundw
      case rel => exact ⟨k + 1, by omega, by go_num, below_drewN hB _⟩
      case measure => simp [intOf]; omega
    · clear hc hc'
      go_wp2
      go_ret
      exact ⟨rfl, hB⟩
end Go.Proofs.YtaaeeaknjlammaaGreatDoor

/- Kernels as they lie in memory: objects, rows of objects and kernels that are the same compare equal. -/
namespace Go.Proofs.YtaaeeaknjlammaaGreatDoor
open Go.RowKit Go.Deep

def ObjV.blk (t : ObjV) : Obj := .cells #[.int .i64 t.id, .int .i64 t.kind, .int .i64 t.up, .int .i64 t.b1, t.c1.val, .string t.data, t.items.val, t.own.val, .int .i64 t.b2, t.c2.val] 60
theorem eqLabel_v (b : Int) (c d : CatL) (w : World) (hc : c.at w) (hd : d.at w) (h : c.same d) :
    Calls Tryz.prog 12 #[.agg #[.int .i64 b, c.val], .agg #[.int .i64 b, d.val]] w fun e w' => e = .returned (.bool true) ∧ Below w.heap.size w w' := by
  obtain ⟨a, n, k, f, g⟩ := c
  obtain ⟨a', n', k', f', g'⟩ := d
  obtain ⟨e1, e2, e3⟩ := h
  simp only at e1 e2 e3
  subst e1 e2 e3
  exact eqLabel_true _ _ _ _ _ _ f' g' w hc.1 hc.2 hd.2
theorem eqStr_v (c d : StrL) (w : World) (hc : c.at w) (hd : d.at w) (h : c.same d) :
    Calls Tryz.prog 87 #[c.val, d.val] w fun e w' => e = .returned (.bool true) ∧ Below w.heap.size w w' := by
  obtain ⟨a, n, k, f⟩ := c
  obtain ⟨a', n', k', f'⟩ := d
  obtain ⟨e1, e2⟩ := h
  simp only at e1 e2
  subst e1 e2
  exact eqStringS_true _ _ _ _ _ f' w hc.1 hc.2.1 hd.2.1
theorem eqInt_v (c d : IntL) (w : World) (hc : c.at w) (hd : d.at w) (h : c.same d) :
    Calls Tryz.prog 86 #[c.val, d.val] w fun e w' => e = .returned (.bool true) ∧ Below w.heap.size w w' := by
  obtain ⟨a, n, k, f⟩ := c
  obtain ⟨a', n', k', f'⟩ := d
  obtain ⟨e1, e2⟩ := h
  simp only at e1 e2
  subst e1 e2
  exact eqInt64S_true _ _ _ _ _ f' w hc.1 hc.2 hd.2

set_option maxRecDepth 100000 in
set_option maxHeartbeats 2000000 in
theorem eqObject_v (t u : ObjV) (w : World) (ht : t.at w) (hu : u.at w) (h : t.same u) :
    Calls Tryz.prog 64 #[t.val, u.val] w fun e w' => e = .returned (.bool true) ∧ Below w.heap.size w w' := by
  obtain ⟨h1, h2, h3, h4, s1, h5, s2, s3, h6, s4⟩ := h
  obtain ⟨ui, uk, uu, ub1, uc1, ud, uit, uo, ub2, uc2⟩ := u
  simp only at h1 h2 h3 h4 h5 h6 s1 s2 s3 s4
  subst h1 h2 h3 h4 h5 h6
  have B0 := hid (((Below.refl _ w).alloc (Nat.le_refl _) t.blk).alloc (by simp) (.cells #[.int .i64 t.id, .int .i64 t.kind, .int .i64 t.up, .int .i64 t.b1, uc1.val, .string t.data, uit.val, uo.val, .int .i64 t.b2, uc2.val] 60))
  have P0 := hid ((Blk.new w t.blk).alloc (.cells #[.int .i64 t.id, .int .i64 t.kind, .int .i64 t.up, .int .i64 t.b1, uc1.val, .string t.data, uit.val, uo.val, .int .i64 t.b2, uc2.val] 60))
  have Q0 : Hid (Blk ((w.alloc t.blk).alloc (.cells #[.int .i64 t.id, .int .i64 t.kind, .int .i64 t.up, .int .i64 t.b1, uc1.val, .string t.data, uit.val, uo.val, .int .i64 t.b2, uc2.val] 60)) (w.heap.size + 1) (.cells #[.int .i64 t.id, .int .i64 t.kind, .int .i64 t.up, .int .i64 t.b1, uc1.val, .string t.data, uit.val, uo.val, .int .i64 t.b2, uc2.val] 60)) := by
    have := Blk.new (w.alloc t.blk) (.cells #[.int .i64 t.id, .int .i64 t.kind, .int .i64 t.up, .int .i64 t.b1, uc1.val, .string t.data, uit.val, uo.val, .int .i64 t.b2, uc2.val] 60)
    refine hid ?_
    simpa using this
  have T := hid ht
  have U := hid hu
  have E1 : Hid (∀ W, Below w.heap.size w W → Calls Tryz.prog 12 #[.agg #[.int .i64 t.b1, t.c1.val], .agg #[.int .i64 t.b1, uc1.val]] W fun e w' => e = .returned (.bool true) ∧ Below W.heap.size W w') := hid (fun W hW => eqLabel_v _ _ _ W (T.out.1.below hW) (U.out.1.below hW) s1)
  have E2 : Hid (∀ W, Below w.heap.size w W → Calls Tryz.prog 87 #[t.items.val, uit.val] W fun e w' => e = .returned (.bool true) ∧ Below W.heap.size W w') := hid (fun W hW => eqStr_v _ _ W (T.out.2.1.below hW) (U.out.2.1.below hW) s2)
  have E3 : Hid (∀ W, Below w.heap.size w W → Calls Tryz.prog 86 #[t.own.val, uo.val] W fun e w' => e = .returned (.bool true) ∧ Below W.heap.size W w') := hid (fun W hW => eqInt_v _ _ W (T.out.2.2.1.below hW) (U.out.2.2.1.below hW) s3)
  have E4 : Hid (∀ W, Below w.heap.size w W → Calls Tryz.prog 12 #[.agg #[.int .i64 t.b2, t.c2.val], .agg #[.int .i64 t.b2, uc2.val]] W fun e w' => e = .returned (.bool true) ∧ Below W.heap.size W w') := hid (fun W hW => eqLabel_v _ _ _ W (T.out.2.2.2.1.below hW) (U.out.2.2.2.1.below hW) s4)
  unfold ObjV.val
  unfold ObjV.blk at B0 P0 Q0
  simp only
  clear ht hu s1 s2 s3 s4
  go_enter Tryz.func64, Tryz.ntmps64
  go_wp2_with fail
  refine (E1.out _ B0.out).mono ?_
  rintro e w1 ⟨rfl, hb1⟩
  have P1 := hid (P0.out.below hb1)
  have Q1 := hid (Q0.out.below hb1)
  have B1 := hid (then_ B0.out hb1)
  clear P0 Q0 B0 hb1
  obtain ⟨p0, p1, p2, p3, p4, p5, p6, p7, p8, p9⟩ := P1.out.ten
  obtain ⟨q0, q1, q2, q3, q4, q5, q6, q7, q8, q9⟩ := Q1.out.ten
  go_wp2_with fail
  refine (E2.out _ B1.out).mono ?_
  rintro e w2 ⟨rfl, hb2⟩
  have P2 := hid (P1.out.below hb2)
  have Q2 := hid (Q1.out.below hb2)
  have B2 := hid (then_ B1.out hb2)
  clear p0 p1 p2 p3 p4 p5 p6 p7 p8 p9 q0 q1 q2 q3 q4 q5 q6 q7 q8 q9 P1 Q1 B1 hb2
  obtain ⟨p0, p1, p2, p3, p4, p5, p6, p7, p8, p9⟩ := P2.out.ten
  obtain ⟨q0, q1, q2, q3, q4, q5, q6, q7, q8, q9⟩ := Q2.out.ten
  go_wp2_with fail
  refine (E3.out _ B2.out).mono ?_
  rintro e w3 ⟨rfl, hb3⟩
  have P3 := hid (P2.out.below hb3)
  have Q3 := hid (Q2.out.below hb3)
  have B3 := hid (then_ B2.out hb3)
  clear p0 p1 p2 p3 p4 p5 p6 p7 p8 p9 q0 q1 q2 q3 q4 q5 q6 q7 q8 q9 P2 Q2 B2 hb3
  obtain ⟨p0, p1, p2, p3, p4, p5, p6, p7, p8, p9⟩ := P3.out.ten
  obtain ⟨q0, q1, q2, q3, q4, q5, q6, q7, q8, q9⟩ := Q3.out.ten
  go_wp2_with fail
  refine (E4.out _ B3.out).mono ?_
  rintro e w4 ⟨rfl, hb4⟩
  have B4 := then_ B3.out hb4
  clear p0 p1 p2 p3 p4 p5 p6 p7 p8 p9 q0 q1 q2 q3 q4 q5 q6 q7 q8 q9 P3 Q3 B3 hb4
  go_wp2
  go_ret
  exact ⟨rfl, B4⟩
set_option maxRecDepth 100000 in
set_option maxHeartbeats 2000000 in
theorem eqObjectS_any (a a' : Option Addr) (n cap cap' : Nat) (T U : Nat → ObjV) (w : World) (hn : n ≤ maxLen) (hT : ObjsAt w a n T) (hU : ObjsAt w a' n U) (hs : ∀ i, i < n → (T i).same (U i)) :
    Calls Tryz.prog 40 #[.slice a n cap, .slice a' n cap'] w fun e w' => e = .returned (.bool true) ∧ Below w.heap.size w w' := by
  unfold maxLen at hn
  have HT := hid hT
  have HU := hid hU
  have HS := hid hs
  clear hT hU hs
  go_enter Tryz.func40, Tryz.ntmps40
  go_wp2
  go_loopw [5] (fun i wr => ∃ k : Nat, k ≤ n ∧ i = .int .i64 k ∧ Below w.heap.size w wr) (fun i _ => n - (intOf i).toNat)
  case atStart => exact ⟨0, Nat.zero_le _, rfl, Below.refl _ _⟩
  case round =>
    obtain ⟨k, hk, rfl, hB⟩ := hrel
    by_cases hlt' : k < n
    · obtain ⟨b, off, rfl, hl1, hc⟩ := HT.out.below hB (by omega)
      obtain ⟨b', off', rfl, hl2, hc'⟩ := HU.out.below hB (by omega)
      obtain ⟨q, qa⟩ := hc k hlt'
      obtain ⟨r, ra⟩ := hc' k hlt'
      have Q := hid (show Cells10 wr.drew b (off + k * 10) (T k) from ⟨q.c0, q.c1, q.c2, q.c3, q.c4, q.c5, q.c6, q.c7, q.c8, q.c9⟩)
      have R := hid (show Cells10 wr.drew b' (off' + k * 10) (U k) from ⟨r.c0, r.c1, r.c2, r.c3, r.c4, r.c5, r.c6, r.c7, r.c8, r.c9⟩)
      have EQ := hid (eqObject_v (T k) (U k) wr.drew (qa.below (Below.refl _ wr).drew) (ra.below (Below.refl _ wr).drew) (HS.out k hlt'))
      unfold ObjV.val at EQ
      obtain ⟨g0, g1, g2, g3, g4, g5, g6, g7, g8, g9⟩ := q
      obtain ⟨h0, h1, h2, h3, h4, h5, h6, h7, h8, h9⟩ := r
      have i0 : (0 : Int) ≤ (k : Int) := by omega
      have i1 : (k : Int) < (n : Int) := by omega
      have hl1' : b < wr.drew.heap.size := hl1
      have hl2' : b' < wr.drew.heap.size := hl2
      clear hc hc' qa ra
      go_wp2_with fail
      go_region_held3 (fun w' => w'.cell? ⟨b, off + k * 10, none⟩ = some (.int .i64 (T k).id) ∧ w'.cell? ⟨b, off + k * 10 + 1, none⟩ = some (.int .i64 (T k).kind) ∧ w'.cell? ⟨b, off + k * 10 + 2, none⟩ = some (.int .i64 (T k).up) ∧ w'.cell? ⟨b, off + k * 10 + 3, none⟩ = some (.int .i64 (T k).b1) ∧ w'.cell? ⟨b, off + k * 10 + 4, none⟩ = some ((T k).c1.val) ∧ w'.cell? ⟨b, off + k * 10 + 5, none⟩ = some (.string (T k).data) ∧ w'.cell? ⟨b, off + k * 10 + 6, none⟩ = some ((T k).items.val) ∧ w'.cell? ⟨b, off + k * 10 + 7, none⟩ = some ((T k).own.val) ∧ w'.cell? ⟨b, off + k * 10 + 8, none⟩ = some (.int .i64 (T k).b2) ∧ w'.cell? ⟨b, off + k * 10 + 9, none⟩ = some ((T k).c2.val) ∧ w'.cell? ⟨b', off' + k * 10, none⟩ = some (.int .i64 (U k).id) ∧ w'.cell? ⟨b', off' + k * 10 + 1, none⟩ = some (.int .i64 (U k).kind) ∧ w'.cell? ⟨b', off' + k * 10 + 2, none⟩ = some (.int .i64 (U k).up) ∧ w'.cell? ⟨b', off' + k * 10 + 3, none⟩ = some (.int .i64 (U k).b1) ∧ w'.cell? ⟨b', off' + k * 10 + 4, none⟩ = some ((U k).c1.val) ∧ w'.cell? ⟨b', off' + k * 10 + 5, none⟩ = some (.string (U k).data) ∧ w'.cell? ⟨b', off' + k * 10 + 6, none⟩ = some ((U k).items.val) ∧ w'.cell? ⟨b', off' + k * 10 + 7, none⟩ = some ((U k).own.val) ∧ w'.cell? ⟨b', off' + k * 10 + 8, none⟩ = some (.int .i64 (U k).b2) ∧ w'.cell? ⟨b', off' + k * 10 + 9, none⟩ = some ((U k).c2.val)) (go_keep)
        (first | (go_at_call 64; refine EQ.out.mono ?_; rintro e w1 ⟨rfl, hb1⟩; obtain ⟨p0, p1, p2, p3, p4, p5, p6, p7, p8, p9⟩ := Q.out.below hl1' hb1; obtain ⟨q0, q1, q2, q3, q4, q5, q6, q7, q8, q9⟩ := R.out.below hl2' hb1))
      have hB1 : Below w.heap.size w w1 := hB.drew.trans (hb1.mono hB.size)
      clear g0 g1 g2 g3 g4 g5 g6 g7 g8 g9 h0 h1 h2 h3 h4 h5 h6 h7 h8 h9 p0 p1 p2 p3 p4 p5 p6 p7 p8 p9 q0 q1 q2 q3 q4 q5 q6 q7 q8 q9 hb1
      go_wp2
      go_roundw
      case rel => exact ⟨k + 1, by omega, by go_num, hB1⟩
      case measure => simp [intOf]; omega
    · go_wp2
      go_ret
      exact ⟨rfl, hB⟩
end Go.Proofs.YtaaeeaknjlammaaGreatDoor

/- Kernels as they lie in memory: kernels that are the same compare equal. -/
namespace Go.Proofs.YtaaeeaknjlammaaGreatDoor
open Go.RowKit Go.Deep

set_option maxRecDepth 100000 in
set_option maxHeartbeats 2000000 in
theorem eqKernel_v (k l : KerV) (w : World) (hk : k.at w) (hl : l.at w) (h : k.same l) :
    Calls Tryz.prog 11 #[k.val, l.val] w fun e w' => e = .returned (.bool true) ∧ Below w.heap.size w w' := by
  obtain ⟨lta, ltn, ltk, lT, loa, lon, lok, lO⟩ := l
  obtain ⟨h1, h2, h3, h4⟩ := h
  simp only at h1 h2 h3 h4
  subst h1 h3
  have P0 := hid ((Blk.new w (.cells #[.slice k.ta k.tn k.tk, .slice k.oa k.on k.ok] 35)).alloc (.cells #[.slice lta k.tn ltk, .slice loa k.on lok] 35))
  have Q0 : Hid (Blk ((w.alloc (.cells #[.slice k.ta k.tn k.tk, .slice k.oa k.on k.ok] 35)).alloc (.cells #[.slice lta k.tn ltk, .slice loa k.on lok] 35)) (w.heap.size + 1) (.cells #[.slice lta k.tn ltk, .slice loa k.on lok] 35)) := by
    have := Blk.new (w.alloc (.cells #[.slice k.ta k.tn k.tk, .slice k.oa k.on k.ok] 35)) (.cells #[.slice lta k.tn ltk, .slice loa k.on lok] 35)
    refine hid ?_
    simpa using this
  have B0 := hid (((Below.refl _ w).alloc (Nat.le_refl _) (.cells #[.slice k.ta k.tn k.tk, .slice k.oa k.on k.ok] 35)).alloc (by simp) (.cells #[.slice lta k.tn ltk, .slice loa k.on lok] 35))
  have E1 : Hid (∀ W, Below w.heap.size w W → Calls Tryz.prog 39 #[.slice k.ta k.tn k.tk, .slice lta k.tn ltk] W fun e w' => e = .returned (.bool true) ∧ Below W.heap.size W w') := hid (fun W hW => eqThreadS_any _ _ _ _ _ k.T lT W hk.1 (hk.2.2.1.below hW) (hl.2.2.1.below hW) h2)
  have E2 : Hid (∀ W, Below w.heap.size w W → Calls Tryz.prog 40 #[.slice k.oa k.on k.ok, .slice loa k.on lok] W fun e w' => e = .returned (.bool true) ∧ Below W.heap.size W w') := hid (fun W hW => eqObjectS_any _ _ _ _ _ k.O lO W hk.2.1 (hk.2.2.2.below hW) (hl.2.2.2.below hW) h4)
  unfold KerV.val
  simp only
  clear hk hl h2 h4
  go_enter Tryz.func11, Tryz.ntmps11
  go_wp2_with fail
  refine (E1.out _ B0.out).mono ?_
  rintro e w1 ⟨rfl, hb1⟩
  have P1 := hid (P0.out.below hb1)
  have Q1 := hid (Q0.out.below hb1)
  have B1 := hid (then_ B0.out hb1)
  clear P0 Q0 B0 hb1
  obtain ⟨p0, p1⟩ := P1.out.two
  obtain ⟨q0, q1⟩ := Q1.out.two
  go_wp2_with fail
  refine (E2.out _ B1.out).mono ?_
  rintro e w2 ⟨rfl, hb2⟩
  have B2 := then_ B1.out hb2
  clear p0 p1 q0 q1 P1 Q1 B1 hb2
  go_wp2
  go_ret
  exact ⟨rfl, B2⟩
end Go.Proofs.YtaaeeaknjlammaaGreatDoor
