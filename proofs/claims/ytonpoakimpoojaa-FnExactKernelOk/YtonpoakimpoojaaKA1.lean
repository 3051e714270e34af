/- Kernels as they lie in memory: threads, each with lists of its own; their budget. -/
import Derived.Test.YtonpoakimpoojaaM
import Derived.Test.YtonpoakimpoojaaYB
namespace Go.Proofs.Ytonpoakimpoojaa
open Go.RowKit Go.Deep

theorem hid {p : Prop} (h : p) : Hid p := h
theorem then_ {w a b : World} (h : Below w.heap.size w a) (k : Below a.heap.size a b) : Below w.heap.size w b := h.trans (k.mono h.size)

/-- a slice of categories: where, how many, how much room, and what lies there -/
structure CatL where
  a : Option Addr
  n : Nat
  k : Nat
  f : Nat → Int
  g : Nat → Int
structure IntL where
  a : Option Addr
  n : Nat
  k : Nat
  h : Nat → Int
def CatL.at (w : World) (c : CatL) : Prop := c.n ≤ maxLen ∧ CatsAt w c.a c.n c.f c.g
def IntL.at (w : World) (c : IntL) : Prop := c.n ≤ maxLen ∧ IntsAt w c.a c.n c.h
def CatL.val (c : CatL) : Value := .slice c.a c.n c.k
def IntL.val (c : IntL) : Value := .slice c.a c.n c.k
/-- a thread -/
structure ThrV where
  id : Int
  b1 : Int
  c1 : CatL
  b2 : Int
  c2 : CatL
  own : IntL
  made : Int
def ThrV.val (t : ThrV) : Value := .agg #[.int .i64 t.id, .int .i64 t.b1, t.c1.val, .int .i64 t.b2, t.c2.val, t.own.val, .int .i64 t.made]
def ThrV.at (w : World) (t : ThrV) : Prop := t.c1.at w ∧ t.c2.at w ∧ t.own.at w
theorem CatL.at.below {w w' : World} {c : CatL} (h : c.at w) (hb : Below w.heap.size w w') : c.at w' := ⟨h.1, h.2.below hb⟩
theorem IntL.at.below {w w' : World} {c : IntL} (h : c.at w) (hb : Below w.heap.size w w') : c.at w' := ⟨h.1, h.2.below hb⟩
theorem ThrV.at.below {w w' : World} {t : ThrV} (h : t.at w) (hb : Below w.heap.size w w') : t.at w' := ⟨h.1.below hb, h.2.1.below hb, h.2.2.below hb⟩
/-- the seven cells of a thread -/
structure Cells7 (w : World) (b o : Nat) (t : ThrV) : Prop where
  c0 : w.cell? ⟨b, o, none⟩ = some (.int .i64 t.id)
  c1 : w.cell? ⟨b, o + 1, none⟩ = some (.int .i64 t.b1)
  c2 : w.cell? ⟨b, o + 2, none⟩ = some t.c1.val
  c3 : w.cell? ⟨b, o + 3, none⟩ = some (.int .i64 t.b2)
  c4 : w.cell? ⟨b, o + 4, none⟩ = some t.c2.val
  c5 : w.cell? ⟨b, o + 5, none⟩ = some t.own.val
  c6 : w.cell? ⟨b, o + 6, none⟩ = some (.int .i64 t.made)
theorem Cells7.below {w w' : World} {b o : Nat} {t : ThrV} (h : Cells7 w b o t) (hl : b < w.heap.size) (hb : Below w.heap.size w w') : Cells7 w' b o t :=
  ⟨(hb.cell (p := ⟨b, o, none⟩) hl).trans h.c0, (hb.cell (p := ⟨b, o + 1, none⟩) hl).trans h.c1, (hb.cell (p := ⟨b, o + 2, none⟩) hl).trans h.c2, (hb.cell (p := ⟨b, o + 3, none⟩) hl).trans h.c3, (hb.cell (p := ⟨b, o + 4, none⟩) hl).trans h.c4, (hb.cell (p := ⟨b, o + 5, none⟩) hl).trans h.c5, (hb.cell (p := ⟨b, o + 6, none⟩) hl).trans h.c6⟩
/-- n threads lie there -/
def ThrsAt (w : World) (a : Option Addr) (n : Nat) (T : Nat → ThrV) : Prop :=
  0 < n → ∃ b off, a = some ⟨b, off, none⟩ ∧ b < w.heap.size ∧ ∀ i, i < n → Cells7 w b (off + i * 7) (T i) ∧ (T i).at w
theorem ThrsAt.below {w w' : World} {a : Option Addr} {n : Nat} {T : Nat → ThrV} (h : ThrsAt w a n T) (hb : Below w.heap.size w w') : ThrsAt w' a n T := fun hn => by
  obtain ⟨b, off, e, hlt, hc⟩ := h hn
  exact ⟨b, off, e, Nat.lt_of_lt_of_le hlt hb.size, fun i hi => ⟨(hc i hi).1.below hlt hb, (hc i hi).2.below hb⟩⟩
/-- the lists are not long -/
def ThrV.small (t : ThrV) : Prop := t.c1.n ≤ 1048576 ∧ t.c2.n ≤ 1048576 ∧ t.own.n ≤ 1048576

theorem szThread_v (t : ThrV) (left : Int) (w : World) (ht : t.at w) (h0 : 0 ≤ left) (h1 : left ≤ 1048576) :
    Calls Try.prog 63 #[t.val, .int .i64 left] w fun e w' => ∃ r : Int, e = .returned (.int .i64 r) ∧ (r = -1 ∨ (0 ≤ r ∧ r ≤ left ∧ t.small)) ∧ Below w.heap.size w w' :=
  szThread_any t.id t.made t.b1 t.c1.a t.c1.n t.c1.k t.b2 t.c2.a t.c2.n t.c2.k t.own.a t.own.n t.own.k left w ht.1.1 ht.2.1.1 ht.2.2.1 h0 h1

set_option maxRecDepth 100000 in
set_option maxHeartbeats 2000000 in
theorem szThreadS_any (a : Option Addr) (n cap : Nat) (T : Nat → ThrV) (left : Int) (w : World) (hn : n ≤ maxLen) (h0 : 0 ≤ left) (h1 : left ≤ 1048576) (hT : ThrsAt w a n T) :
    Calls Try.prog 31 #[.slice a n cap, .int .i64 left] w fun e w' => ∃ r : Int, e = .returned (.int .i64 r) ∧ (r = -1 ∨ (0 ≤ r ∧ r ≤ left ∧ n ≤ 1048576 ∧ ∀ i, i < n → (T i).small)) ∧ Below w.heap.size w w' := by
  unfold maxLen at hn
  have HT := hid hT
  clear hT
  by_cases hbig : left < n
  · have d1 : IntKind.i64.wrap (left - (n : Int)) = left - (n : Int) := by rw [IntKind.wrap_i64]; omega
    have d2 : left - (n : Int) < 0 := by omega
    go_enter Try.func31, Try.ntmps31
    go_wp2
    go_ret
    exact ⟨_, rfl, .inl rfl, Below.refl _ _⟩
  · have d1 : IntKind.i64.wrap (left - (n : Int)) = left - (n : Int) := by rw [IntKind.wrap_i64]; omega
    have d2 : ¬ left - (n : Int) < 0 := by omega
    have hn2 : n ≤ 1048576 := by omega
    go_enter Try.func31, Try.ntmps31
    go_wp2
    go_loopw [1, 5] (fun l i wr => ∃ (k : Nat) (m : Int), k ≤ n ∧ i = .int .i64 k ∧ l = .int .i64 m ∧ 0 ≤ m ∧ m ≤ left ∧ Hid (∀ j, j < k → (T j).small) ∧ Below w.heap.size w wr) (fun _ i _ => n - (intOf i).toNat)
    case atStart => exact ⟨0, _, by omega, rfl, rfl, by omega, by omega, hid (fun j hj => by omega), Below.refl _ _⟩
    case round =>
      obtain ⟨k, m, hk, rfl, rfl, m0, m1, HS, hB⟩ := hrel
      by_cases hlt : k < n
      · obtain ⟨b, off, rfl, hlt0, hc⟩ := HT.out.below hB (by omega)
        obtain ⟨q, ht⟩ := hc k hlt
        have q0 := q.c0
        have q1 := q.c1
        have q2 := q.c2
        have q3 := q.c3
        have q4 := q.c4
        have q5 := q.c5
        have q6 := q.c6
        have i1 : (k : Int) < (n : Int) := by omega
        have SZ := hid (szThread_v (T k) m wr ht m0 (by omega))
        unfold ThrV.val at SZ
        clear hc q ht hlt0
        go_wp2_with fail
        refine SZ.out.mono ?_
        rintro e w2 ⟨r, rfl, hr, hb2⟩
        have B2 := then_ hB hb2
        clear q0 q1 q2 q3 q4 q5 q6 SZ hb2
        rcases hr with rfl | ⟨r0, r1, sm⟩
        · go_wp2
          go_ret
          exact ⟨_, rfl, .inl rfl, B2⟩
        · have r2 : ¬ r < 0 := by omega
          have HS2 : Hid (∀ j, j < k + 1 → (T j).small) := hid (fun j hj => by
            by_cases e : j = k
            · subst e; exact sm
            · exact HS.out j (by omega))
          go_wp2
          exact ⟨⟨k + 1, r, by omega, by go_num, rfl, r0, by omega, HS2, B2⟩, by simp [intOf]; omega⟩
      · go_wp2
        go_ret
        exact ⟨_, rfl, .inr ⟨m0, by omega, hn2, fun i hi => HS.out i (by omega)⟩, hB⟩
end Go.Proofs.Ytonpoakimpoojaa
