/- Threads in the exact laws: ThreadOk of the program and of the model answer the plain function thrOk. -/
import Derived.Test.YtjceaajnemgheaaGreatDoorZ1
namespace Go.Proofs.YtjceaajnemgheaaGreatDoor
open Go.RowKit Go.Deep

def thrOk (id made b1 : Int) (n1 : Nat) (f1 g1 : Nat → Int) (b2 : Int) (n2 : Nat) (f2 g2 : Nat → Int) (n3 : Nat) (h : Nat → Int) : Bool :=
  inB id 1 9 && labOk b1 n1 f1 g1 && labOk b2 n2 f2 g2 && ownOk n3 h && inB made 0 30
theorem thrOk_all {id made b1 : Int} {n1 : Nat} {f1 g1 : Nat → Int} {b2 : Int} {n2 : Nat} {f2 g2 : Nat → Int} {n3 : Nat} {h : Nat → Int} (t0 : inB id 1 9 = true) (t1 : labOk b1 n1 f1 g1 = true) (t2 : labOk b2 n2 f2 g2 = true) (t3 : ownOk n3 h = true) :
    thrOk id made b1 n1 f1 g1 b2 n2 f2 g2 n3 h = inB made 0 30 := by simp [thrOk, t0, t1, t2, t3]

set_option maxHeartbeats 1000000 in
theorem specThr_any (id made b1 : Int) (a1 : Option Addr) (n1 k1 : Nat) (f1 g1 : Nat → Int) (b2 : Int) (a2 : Option Addr) (n2 k2 : Nat) (f2 g2 : Nat → Int) (a3 : Option Addr) (n3 k3 : Nat) (h : Nat → Int) (w : World)
    (hn1 : n1 ≤ maxLen) (hn2 : n2 ≤ maxLen) (hn3 : n3 ≤ maxLen) (hc1 : CatsAt w a1 n1 f1 g1) (hc2 : CatsAt w a2 n2 f2 g2) (hc3 : IntsAt w a3 n3 h) :
    Calls Tryz.prog 45 #[.agg #[.int .i64 id, .int .i64 b1, .slice a1 n1 k1, .int .i64 b2, .slice a2 n2 k2, .slice a3 n3 k3, .int .i64 made]] w fun e w' => e = .returned (.bool (thrOk id made b1 n1 f1 g1 b2 n2 f2 g2 n3 h)) ∧ Below w.heap.size w w' := by
  have hb0 := (Below.refl _ w).alloc (Nat.le_refl _) (.cells #[.int .i64 id, .int .i64 b1, .slice a1 n1 k1, .int .i64 b2, .slice a2 n2 k2, .slice a3 n3 k3, .int .i64 made] 41)
  have C1 := hc1.below hb0
  have C2 := hc2.below hb0
  have C3 := hc3.below hb0
  clear hc1 hc2 hc3
  by_cases t0 : inB id 1 9 = true
  · skip
    go_enter Tryz.func45, Tryz.ntmps45
    go_wp2_with (go_at_call 49; refine (l1In_any _ _ _ _).mono ?_; rintro e w' ⟨rfl, rfl⟩)
    refine (specOk_any _ _ _ _ f1 g1 _ hn1 C1).mono ?_
    rintro e w1 ⟨rfl, hb1⟩
    obtain ⟨q1, _⟩ := bcell hb1
    have z1 : w.heap.size < w1.heap.size := by have := hb1.size; simp at this; omega
    have B1 : Below w.heap.size w w1 := hb0.trans (hb1.mono (by simp))
    by_cases t1 : labOk b1 n1 f1 g1 = true
    · go_wp2_with fail
      refine (specOk_any _ _ _ _ f2 g2 _ hn2 (C2.below hb1)).mono ?_
      rintro e w2 ⟨rfl, hb2⟩
      obtain ⟨q2, _⟩ := bcell hb2
      have z2 : w.heap.size < w2.heap.size := by have := hb2.size; omega
      have B2 : Below w.heap.size w w2 := B1.trans (hb2.mono (by omega))
      by_cases t2 : labOk b2 n2 f2 g2 = true
      · go_wp2_with fail
        refine (l2Owns_any _ _ _ h _ hn3 ((C3.below hb1).below hb2)).mono ?_
        rintro e w3 ⟨rfl, hb3⟩
        obtain ⟨q3, _⟩ := bcell hb3
        have z3 : w.heap.size < w3.heap.size := by have := hb3.size; omega
        have B3 : Below w.heap.size w w3 := B2.trans (hb3.mono (by omega))
        by_cases t3 : ownOk n3 h = true
        · go_wp2_with (go_at_call 49; refine (l1In_any _ _ _ _).mono ?_; rintro e w' ⟨rfl, rfl⟩)
          go_ret
          exact ⟨ret_bool (by simp [thrOk, t0, t1, t2, t3]), B3⟩
        · have t3' : ownOk n3 h = false := by simpa using t3
          clear t3
          go_wp2
          go_ret
          exact ⟨ret_bool (by simp [thrOk, t3']), B3⟩
      · have t2' : labOk b2 n2 f2 g2 = false := by simpa using t2
        clear t2
        go_wp2
        go_ret
        exact ⟨ret_bool (by simp [thrOk, t2']), B2⟩
    · have t1' : labOk b1 n1 f1 g1 = false := by simpa using t1
      clear t1
      go_wp2
      go_ret
      exact ⟨ret_bool (by simp [thrOk, t1']), B1⟩
  · have t0' : inB id 1 9 = false := by simpa using t0
    clear t0
    go_enter Tryz.func45, Tryz.ntmps45
    go_wp2_with (go_at_call 49; refine (l1In_any _ _ _ _).mono ?_; rintro e w' ⟨rfl, rfl⟩)
    go_ret
    exact ⟨ret_bool (by simp [thrOk, t0']), hb0⟩

set_option maxHeartbeats 1000000 in
theorem implThr_any (id made b1 : Int) (a1 : Option Addr) (n1 k1 : Nat) (f1 g1 : Nat → Int) (b2 : Int) (a2 : Option Addr) (n2 k2 : Nat) (f2 g2 : Nat → Int) (a3 : Option Addr) (n3 k3 : Nat) (h : Nat → Int) (w : World)
    (hn1 : n1 ≤ maxLen) (hn2 : n2 ≤ maxLen) (hn3 : n3 ≤ maxLen) (hc1 : CatsAt w a1 n1 f1 g1) (hc2 : CatsAt w a2 n2 f2 g2) (hc3 : IntsAt w a3 n3 h) :
    Calls Tryz.prog 70 #[.agg #[.int .i64 id, .int .i64 b1, .slice a1 n1 k1, .int .i64 b2, .slice a2 n2 k2, .slice a3 n3 k3, .int .i64 made]] w fun e w' => e = .returned (.bool (thrOk id made b1 n1 f1 g1 b2 n2 f2 g2 n3 h)) ∧ Below w.heap.size w w' := by
  have hb0 := (Below.refl _ w).alloc (Nat.le_refl _) (.cells #[.int .i64 id, .int .i64 b1, .slice a1 n1 k1, .int .i64 b2, .slice a2 n2 k2, .slice a3 n3 k3, .int .i64 made] 41)
  have C1 := hc1.below hb0
  have C2 := hc2.below hb0
  have C3 := hc3.below hb0
  clear hc1 hc2 hc3
  by_cases t0 : inB id 1 9 = true
  · obtain ⟨s1, s2⟩ := inB_iff.1 t0
    go_enter Tryz.func70, Tryz.ntmps70
    go_wp2_with fail
    refine (implOk_any _ _ _ _ f1 g1 _ hn1 C1).mono ?_
    rintro e w1 ⟨rfl, hb1⟩
    obtain ⟨q1, _⟩ := bcell hb1
    have z1 : w.heap.size < w1.heap.size := by have := hb1.size; simp at this; omega
    have B1 : Below w.heap.size w w1 := hb0.trans (hb1.mono (by simp))
    by_cases t1 : labOk b1 n1 f1 g1 = true
    · go_wp2_with fail
      refine (implOk_any _ _ _ _ f2 g2 _ hn2 (C2.below hb1)).mono ?_
      rintro e w2 ⟨rfl, hb2⟩
      obtain ⟨q2, _⟩ := bcell hb2
      have z2 : w.heap.size < w2.heap.size := by have := hb2.size; omega
      have B2 : Below w.heap.size w w2 := B1.trans (hb2.mono (by omega))
      by_cases t2 : labOk b2 n2 f2 g2 = true
      · go_wp2_with fail
        refine (ownsOk_any _ _ _ h _ hn3 ((C3.below hb1).below hb2)).mono ?_
        rintro e w3 ⟨rfl, rfl⟩
        have B3 := B2
        by_cases t3 : ownOk n3 h = true
        · go_wp2
          all_goals
            go_ret
            refine ⟨ret_bool ?_, B3⟩
            rw [thrOk_all t0 t1 t2 t3]
            first | exact (inB_yes (by assumption)).symm | exact (inB_no (by assumption)).symm
        · have t3' : ownOk n3 h = false := by simpa using t3
          clear t3
          go_wp2
          go_ret
          exact ⟨ret_bool (by simp [thrOk, t3']), B3⟩
      · have t2' : labOk b2 n2 f2 g2 = false := by simpa using t2
        clear t2
        go_wp2
        go_ret
        exact ⟨ret_bool (by simp [thrOk, t2']), B2⟩
    · have t1' : labOk b1 n1 f1 g1 = false := by simpa using t1
      clear t1
      go_wp2
      go_ret
      exact ⟨ret_bool (by simp [thrOk, t1']), B1⟩
  · have t0' : inB id 1 9 = false := by simpa using t0
    clear t0
    go_enter Tryz.func70, Tryz.ntmps70
    by_cases s1 : 1 ≤ id
    · have s2 : ¬ id ≤ 9 := fun s2 => by simp [inB, s1, s2] at t0'
      go_wp2
      go_ret
      exact ⟨ret_bool (by simp [thrOk, t0']), hb0⟩
    · go_wp2
      go_ret
      exact ⟨ret_bool (by simp [thrOk, t0']), hb0⟩
end Go.Proofs.YtjceaajnemgheaaGreatDoor
namespace Go.Proofs.YtjceaajnemgheaaGreatDoor
open Go.RowKit Go.Deep

theorem szOf_cases (n : Nat) (left : Int) (h0 : 0 ≤ left) (h1 : left ≤ 1048576) : (szOf n left = -1) ∨ (0 ≤ szOf n left ∧ szOf n left ≤ left ∧ n ≤ 1048576) := by
  unfold szOf; split
  · exact .inl rfl
  · right; omega

set_option maxHeartbeats 1000000 in
theorem eqThread_true (id made b1 : Int) (a1 : Option Addr) (n1 k1 : Nat) (f1 g1 : Nat → Int) (b2 : Int) (a2 : Option Addr) (n2 k2 : Nat) (f2 g2 : Nat → Int) (a3 : Option Addr) (n3 k3 : Nat) (h : Nat → Int)
    (a1' : Option Addr) (k1' : Nat) (a2' : Option Addr) (k2' : Nat) (a3' : Option Addr) (k3' : Nat) (w : World)
    (hn1 : n1 ≤ maxLen) (hn2 : n2 ≤ maxLen) (hn3 : n3 ≤ maxLen) (hc1 : CatsAt w a1 n1 f1 g1) (hc2 : CatsAt w a2 n2 f2 g2) (hc3 : IntsAt w a3 n3 h) (hd1 : CatsAt w a1' n1 f1 g1) (hd2 : CatsAt w a2' n2 f2 g2) (hd3 : IntsAt w a3' n3 h) :
    Calls Tryz.prog 35 #[.agg #[.int .i64 id, .int .i64 b1, .slice a1 n1 k1, .int .i64 b2, .slice a2 n2 k2, .slice a3 n3 k3, .int .i64 made], .agg #[.int .i64 id, .int .i64 b1, .slice a1' n1 k1', .int .i64 b2, .slice a2' n2 k2', .slice a3' n3 k3', .int .i64 made]] w fun e w' =>
      e = .returned (.bool true) ∧ Below w.heap.size w w' := by
  have hb0 := ((Below.refl _ w).alloc (Nat.le_refl _) (.cells #[.int .i64 id, .int .i64 b1, .slice a1 n1 k1, .int .i64 b2, .slice a2 n2 k2, .slice a3 n3 k3, .int .i64 made] 41)).alloc (by simp) (.cells #[.int .i64 id, .int .i64 b1, .slice a1' n1 k1', .int .i64 b2, .slice a2' n2 k2', .slice a3' n3 k3', .int .i64 made] 41)
  go_enter Tryz.func35, Tryz.ntmps35
  go_wp2_with fail
  refine (eqLabel_true _ _ _ _ _ _ f1 g1 _ hn1 (hc1.below hb0) (hd1.below hb0)).mono ?_
  rintro e w1 ⟨rfl, hb1⟩
  obtain ⟨q1, _⟩ := bcell hb1
  have z1 : w.heap.size + 1 < w1.heap.size := by have := hb1.size; simp at this; omega
  have z1' : w.heap.size < w1.heap.size := by omega
  have B1 : Below w.heap.size w w1 := hb0.trans (hb1.mono (by simp; omega))
  go_wp2_with fail
  refine (eqLabel_true _ _ _ _ _ _ f2 g2 _ hn2 (hc2.below B1) (hd2.below B1)).mono ?_
  rintro e w2 ⟨rfl, hb2⟩
  obtain ⟨q2, _⟩ := bcell hb2
  have z2 : w.heap.size + 1 < w2.heap.size := by have := hb2.size; omega
  have z2' : w.heap.size < w2.heap.size := by omega
  have B2 : Below w.heap.size w w2 := B1.trans (hb2.mono (by omega))
  go_wp2_with fail
  refine (eqInt64S_true _ _ _ _ _ h _ hn3 (hc3.below B2) (hd3.below B2)).mono ?_
  rintro e w3 ⟨rfl, hb3⟩
  obtain ⟨q3, _⟩ := bcell hb3
  have B3 : Below w.heap.size w w3 := B2.trans (hb3.mono (by omega))
  clear hc1 hc2 hc3 hd1 hd2 hd3
  go_wp2
  go_ret
  exact ⟨rfl, B3⟩
end Go.Proofs.YtjceaajnemgheaaGreatDoor
namespace Go.Proofs.YtjceaajnemgheaaGreatDoor
open Go.RowKit Go.Deep
def Blk (W : World) (P : Nat) (o : Obj) : Prop := W.heap[P]? = some o
theorem Blk.new (W : World) (o : Obj) : Blk (W.alloc o) W.heap.size o := blk_alloc_new _ _
theorem Blk.lt {W : World} {P : Nat} {o : Obj} (h : Blk W P o) : P < W.heap.size := (Array.getElem?_eq_some_iff.1 h).1
theorem Blk.alloc {W : World} {P : Nat} {o : Obj} (h : Blk W P o) (o' : Obj) : Blk (W.alloc o') P o := (blk_alloc_lt _ _ _ h.lt).trans h
theorem Blk.below {W W' : World} {P : Nat} {o : Obj} (h : Blk W P o) (hb : Below W.heap.size W W') : Blk W' P o := (hb.block P h.lt).trans h
theorem Blk.two {W : World} {P t : Nat} {x y : Value} (h : Blk W P (.cells #[x, y] t)) : W.cell? ⟨P, 0, none⟩ = some x ∧ W.cell? ⟨P, 1, none⟩ = some y := by
  unfold Blk at h
  simp [World.cell?, h]
end Go.Proofs.YtjceaajnemgheaaGreatDoor
namespace Go.Proofs.YtjceaajnemgheaaGreatDoor
open Go.RowKit Go.Deep

theorem hid {p : Prop} (h : p) : Hid p := h
theorem then_ {w a b : World} (h : Below w.heap.size w a) (k : Below a.heap.size a b) : Below w.heap.size w b := h.trans (k.mono h.size)
structure CatL where
  a : Option Addr
  n : Nat
  k : Nat
  f : Nat → Int
  g : Nat → Int
structure IntL where
  a : Option Addr
  n : Nat
  k : Nat
  h : Nat → Int
def CatL.at (w : World) (c : CatL) : Prop := c.n ≤ maxLen ∧ CatsAt w c.a c.n c.f c.g
def IntL.at (w : World) (c : IntL) : Prop := c.n ≤ maxLen ∧ IntsAt w c.a c.n c.h
def CatL.val (c : CatL) : Value := .slice c.a c.n c.k
def IntL.val (c : IntL) : Value := .slice c.a c.n c.k
structure ThrV where
  id : Int
  b1 : Int
  c1 : CatL
  b2 : Int
  c2 : CatL
  own : IntL
  made : Int
def ThrV.val (t : ThrV) : Value := .agg #[.int .i64 t.id, .int .i64 t.b1, t.c1.val, .int .i64 t.b2, t.c2.val, t.own.val, .int .i64 t.made]
def ThrV.at (w : World) (t : ThrV) : Prop := t.c1.at w ∧ t.c2.at w ∧ t.own.at w
theorem CatL.at.below {w w' : World} {c : CatL} (h : c.at w) (hb : Below w.heap.size w w') : c.at w' := ⟨h.1, h.2.below hb⟩
theorem IntL.at.below {w w' : World} {c : IntL} (h : c.at w) (hb : Below w.heap.size w w') : c.at w' := ⟨h.1, h.2.below hb⟩
theorem ThrV.at.below {w w' : World} {t : ThrV} (h : t.at w) (hb : Below w.heap.size w w') : t.at w' := ⟨h.1.below hb, h.2.1.below hb, h.2.2.below hb⟩
structure Cells7 (w : World) (b o : Nat) (t : ThrV) : Prop where
  c0 : w.cell? ⟨b, o, none⟩ = some (.int .i64 t.id)
  c1 : w.cell? ⟨b, o + 1, none⟩ = some (.int .i64 t.b1)
  c2 : w.cell? ⟨b, o + 2, none⟩ = some t.c1.val
  c3 : w.cell? ⟨b, o + 3, none⟩ = some (.int .i64 t.b2)
  c4 : w.cell? ⟨b, o + 4, none⟩ = some t.c2.val
  c5 : w.cell? ⟨b, o + 5, none⟩ = some t.own.val
  c6 : w.cell? ⟨b, o + 6, none⟩ = some (.int .i64 t.made)
theorem Cells7.below {w w' : World} {b o : Nat} {t : ThrV} (h : Cells7 w b o t) (hl : b < w.heap.size) (hb : Below w.heap.size w w') : Cells7 w' b o t :=
  ⟨(hb.cell (p := ⟨b, o, none⟩) hl).trans h.c0, (hb.cell (p := ⟨b, o + 1, none⟩) hl).trans h.c1, (hb.cell (p := ⟨b, o + 2, none⟩) hl).trans h.c2, (hb.cell (p := ⟨b, o + 3, none⟩) hl).trans h.c3, (hb.cell (p := ⟨b, o + 4, none⟩) hl).trans h.c4, (hb.cell (p := ⟨b, o + 5, none⟩) hl).trans h.c5, (hb.cell (p := ⟨b, o + 6, none⟩) hl).trans h.c6⟩
def ThrsAt (w : World) (a : Option Addr) (n : Nat) (T : Nat → ThrV) : Prop :=
  0 < n → ∃ b off, a = some ⟨b, off, none⟩ ∧ b < w.heap.size ∧ ∀ i, i < n → Cells7 w b (off + i * 7) (T i) ∧ (T i).at w
theorem ThrsAt.below {w w' : World} {a : Option Addr} {n : Nat} {T : Nat → ThrV} (h : ThrsAt w a n T) (hb : Below w.heap.size w w') : ThrsAt w' a n T := fun hn => by
  obtain ⟨b, off, e, hlt, hc⟩ := h hn
  exact ⟨b, off, e, Nat.lt_of_lt_of_le hlt hb.size, fun i hi => ⟨(hc i hi).1.below hlt hb, (hc i hi).2.below hb⟩⟩
def ThrV.small (t : ThrV) : Prop := t.c1.n ≤ 1048576 ∧ t.c2.n ≤ 1048576 ∧ t.own.n ≤ 1048576

end Go.Proofs.YtjceaajnemgheaaGreatDoor
namespace Go.Proofs.YtjceaajnemgheaaGreatDoor
open Go.RowKit Go.Deep

def StrAt (w : World) (a : Option Addr) (n : Nat) (f : Nat → ByteArray) : Prop := 0 < n → ∃ b off, a = some ⟨b, off, none⟩ ∧ b < w.heap.size ∧ ∀ i, i < n → w.cell? ⟨b, off + i, none⟩ = some (.string (f i))
theorem StrAt.below {w w' : World} {a : Option Addr} {n : Nat} {f : Nat → ByteArray} (h : StrAt w a n f) (hb : Below w.heap.size w w') : StrAt w' a n f := fun hn => by
  obtain ⟨b, off, e, hlt, hc⟩ := h hn
  exact ⟨b, off, e, Nat.lt_of_lt_of_le hlt hb.size, fun i hi => (hb.cell (p := ⟨b, off + i, none⟩) hlt).trans (hc i hi)⟩
structure StrL where
  a : Option Addr
  n : Nat
  k : Nat
  f : Nat → ByteArray
def StrL.at (w : World) (c : StrL) : Prop := c.n ≤ maxLen ∧ StrAt w c.a c.n c.f ∧ ∀ i, i < c.n → (c.f i).size ≤ maxLen
def StrL.val (c : StrL) : Value := .slice c.a c.n c.k
theorem StrL.at.below {w w' : World} {c : StrL} (h : c.at w) (hb : Below w.heap.size w w') : c.at w' := ⟨h.1, h.2.1.below hb, h.2.2⟩
def StrL.small (c : StrL) : Prop := c.n ≤ 1048576 ∧ ∀ i, i < c.n → (c.f i).size ≤ 1048576
structure ObjV where
  id : Int
  kind : Int
  up : Int
  b1 : Int
  c1 : CatL
  data : ByteArray
  items : StrL
  own : IntL
  b2 : Int
  c2 : CatL
def ObjV.val (t : ObjV) : Value := .agg #[.int .i64 t.id, .int .i64 t.kind, .int .i64 t.up, .int .i64 t.b1, t.c1.val, .string t.data, t.items.val, t.own.val, .int .i64 t.b2, t.c2.val]
def ObjV.at (w : World) (t : ObjV) : Prop := t.c1.at w ∧ t.items.at w ∧ t.own.at w ∧ t.c2.at w ∧ t.data.size ≤ maxLen
theorem ObjV.at.below {w w' : World} {t : ObjV} (h : t.at w) (hb : Below w.heap.size w w') : t.at w' := ⟨h.1.below hb, h.2.1.below hb, h.2.2.1.below hb, h.2.2.2.1.below hb, h.2.2.2.2⟩
def ObjV.small (t : ObjV) : Prop := t.c1.n ≤ 1048576 ∧ t.data.size ≤ 1048576 ∧ t.items.small ∧ t.own.n ≤ 1048576 ∧ t.c2.n ≤ 1048576
structure Cells10 (w : World) (b o : Nat) (t : ObjV) : Prop where
  c0 : w.cell? ⟨b, o, none⟩ = some (.int .i64 t.id)
  c1 : w.cell? ⟨b, o + 1, none⟩ = some (.int .i64 t.kind)
  c2 : w.cell? ⟨b, o + 2, none⟩ = some (.int .i64 t.up)
  c3 : w.cell? ⟨b, o + 3, none⟩ = some (.int .i64 t.b1)
  c4 : w.cell? ⟨b, o + 4, none⟩ = some t.c1.val
  c5 : w.cell? ⟨b, o + 5, none⟩ = some (.string t.data)
  c6 : w.cell? ⟨b, o + 6, none⟩ = some t.items.val
  c7 : w.cell? ⟨b, o + 7, none⟩ = some t.own.val
  c8 : w.cell? ⟨b, o + 8, none⟩ = some (.int .i64 t.b2)
  c9 : w.cell? ⟨b, o + 9, none⟩ = some t.c2.val
theorem Cells10.below {w w' : World} {b o : Nat} {t : ObjV} (h : Cells10 w b o t) (hl : b < w.heap.size) (hb : Below w.heap.size w w') : Cells10 w' b o t :=
  ⟨(hb.cell (p := ⟨b, o, none⟩) hl).trans h.c0, (hb.cell (p := ⟨b, o + 1, none⟩) hl).trans h.c1, (hb.cell (p := ⟨b, o + 2, none⟩) hl).trans h.c2, (hb.cell (p := ⟨b, o + 3, none⟩) hl).trans h.c3, (hb.cell (p := ⟨b, o + 4, none⟩) hl).trans h.c4, (hb.cell (p := ⟨b, o + 5, none⟩) hl).trans h.c5, (hb.cell (p := ⟨b, o + 6, none⟩) hl).trans h.c6, (hb.cell (p := ⟨b, o + 7, none⟩) hl).trans h.c7, (hb.cell (p := ⟨b, o + 8, none⟩) hl).trans h.c8, (hb.cell (p := ⟨b, o + 9, none⟩) hl).trans h.c9⟩
def ObjsAt (w : World) (a : Option Addr) (n : Nat) (T : Nat → ObjV) : Prop :=
  0 < n → ∃ b off, a = some ⟨b, off, none⟩ ∧ b < w.heap.size ∧ ∀ i, i < n → Cells10 w b (off + i * 10) (T i) ∧ (T i).at w
theorem ObjsAt.below {w w' : World} {a : Option Addr} {n : Nat} {T : Nat → ObjV} (h : ObjsAt w a n T) (hb : Below w.heap.size w w') : ObjsAt w' a n T := fun hn => by
  obtain ⟨b, off, e, hlt, hc⟩ := h hn
  exact ⟨b, off, e, Nat.lt_of_lt_of_le hlt hb.size, fun i hi => ⟨(hc i hi).1.below hlt hb, (hc i hi).2.below hb⟩⟩

theorem Blk.ten {W : World} {P t : Nat} {x0 x1 x2 x3 x4 x5 x6 x7 x8 x9 : Value} (h : Blk W P (.cells #[x0, x1, x2, x3, x4, x5, x6, x7, x8, x9] t)) : W.cell? ⟨P, 0, none⟩ = some x0 ∧ W.cell? ⟨P, 1, none⟩ = some x1 ∧ W.cell? ⟨P, 2, none⟩ = some x2 ∧ W.cell? ⟨P, 3, none⟩ = some x3 ∧ W.cell? ⟨P, 4, none⟩ = some x4 ∧ W.cell? ⟨P, 5, none⟩ = some x5 ∧ W.cell? ⟨P, 6, none⟩ = some x6 ∧ W.cell? ⟨P, 7, none⟩ = some x7 ∧ W.cell? ⟨P, 8, none⟩ = some x8 ∧ W.cell? ⟨P, 9, none⟩ = some x9 := by
  unfold Blk at h
  simp [World.cell?, h]
def ObjV.cells (t : ObjV) : Array Value := #[.int .i64 t.id, .int .i64 t.kind, .int .i64 t.up, .int .i64 t.b1, t.c1.val, .string t.data, t.items.val, t.own.val, .int .i64 t.b2, t.c2.val]
structure KerV where
  ta : Option Addr
  tn : Nat
  tk : Nat
  T : Nat → ThrV
  oa : Option Addr
  on : Nat
  ok : Nat
  O : Nat → ObjV
def KerV.val (k : KerV) : Value := .agg #[.slice k.ta k.tn k.tk, .slice k.oa k.on k.ok]
def KerV.at (w : World) (k : KerV) : Prop := k.tn ≤ maxLen ∧ k.on ≤ maxLen ∧ ThrsAt w k.ta k.tn k.T ∧ ObjsAt w k.oa k.on k.O
theorem KerV.at.below {w w' : World} {k : KerV} (h : k.at w) (hb : Below w.heap.size w w') : k.at w' := ⟨h.1, h.2.1, h.2.2.1.below hb, h.2.2.2.below hb⟩
def KerV.small (k : KerV) : Prop := (k.tn ≤ 1048576 ∧ ∀ i, i < k.tn → (k.T i).small) ∧ (k.on ≤ 1048576 ∧ ∀ i, i < k.on → (k.O i).small)

end Go.Proofs.YtjceaajnemgheaaGreatDoor
