/- l4Make, by the model. -/
import Derived.Deep.CutBlock
import Derived.Test.YthbmfbnnemgbpaaGreatDoorZ0
import Derived.Test.YthbmfbnnemgbpaaGreatDoorZ24
namespace Go.Proofs.YthbmfbnnemgbpaaGreatDoor
open Go Go.RowKit Go.Deep Go.Maps Go.BigFrame Go.Shelf
def newObj (X : ThrV) (s : StepV) (d1 d2 : CatL) (ow : IntL) : ObjV := ⟨newCat X, s.kind - 1, s.id, s.b1, d1, ⟨#[]⟩, ⟨none, 0, 0, fun _ => ⟨#[]⟩⟩, ow, if s.kind = 5 then s.b2 else 0, d2⟩
theorem set10 {B : Nat} {V W : World} {P : Nat} (h : Below B V W) (hP : B ≤ P) (x0 x1 x2 x3 x4 x5 x6 x7 x8 x9 : Value) : Below B V ((((((((((W.setCell ⟨P, 0, none⟩ x0).setCell ⟨P, 1, none⟩ x1).setCell ⟨P, 2, none⟩ x2).setCell ⟨P, 3, none⟩ x3).setCell ⟨P, 4, none⟩ x4).setCell ⟨P, 5, none⟩ x5).setCell ⟨P, 6, none⟩ x6).setCell ⟨P, 7, none⟩ x7).setCell ⟨P, 8, none⟩ x8).setCell ⟨P, 9, none⟩ x9) :=
 (((((((((h.setCell hP x0).setCell hP x1).setCell hP x2).setCell hP x3).setCell hP x4).setCell hP x5).setCell hP x6).setCell hP x7).setCell hP x8).setCell hP x9
theorem blk_set10 {W : World} {P t : Nat} {y0 y1 y2 y3 y4 y5 y6 y7 y8 y9 : Value} (h : Blk W P (.cells #[y0, y1, y2, y3, y4, y5, y6, y7, y8, y9] t)) (x0 x1 x2 x3 x4 x5 x6 x7 x8 x9 : Value) : Blk ((((((((((W.setCell ⟨P, 0, none⟩ x0).setCell ⟨P, 1, none⟩ x1).setCell ⟨P, 2, none⟩ x2).setCell ⟨P, 3, none⟩ x3).setCell ⟨P, 4, none⟩ x4).setCell ⟨P, 5, none⟩ x5).setCell ⟨P, 6, none⟩ x6).setCell ⟨P, 7, none⟩ x7).setCell ⟨P, 8, none⟩ x8).setCell ⟨P, 9, none⟩ x9) P (.cells #[x0, x1, x2, x3, x4, x5, x6, x7, x8, x9] t) :=
 by
 have k := (((((((((h.setAt (i := 0) x0).setAt (i := 1) x1).setAt (i := 2) x2).setAt (i := 3) x3).setAt (i := 4) x4).setAt (i := 5) x5).setAt (i := 6) x6).setAt (i := 7) x7).setAt (i := 8) x8).setAt (i := 9) x9
 simpa using k
theorem keepsL_trans {w w' w'' : World} (h : KeepsL w w') (k : KeepsL w' w'') : KeepsL w w'' := ⟨Nat.le_trans h.size k.size, fun b cs t hb ht => (k.block b cs t ((h.block b cs t hb ht).trans hb) ht).trans (h.block b cs t hb ht)⟩
theorem keeps_set10 {W : World} {P t : Nat} {y0 y1 y2 y3 y4 y5 y6 y7 y8 y9 : Value} (h : Blk W P (.cells #[y0, y1, y2, y3, y4, y5, y6, y7, y8, y9] t)) (ht : t ≠ 63 ∧ t ≠ 2 ∧ t ≠ 9) (x0 x1 x2 x3 x4 x5 x6 x7 x8 x9 : Value) : KeepsL W ((((((((((W.setCell ⟨P, 0, none⟩ x0).setCell ⟨P, 1, none⟩ x1).setCell ⟨P, 2, none⟩ x2).setCell ⟨P, 3, none⟩ x3).setCell ⟨P, 4, none⟩ x4).setCell ⟨P, 5, none⟩ x5).setCell ⟨P, 6, none⟩ x6).setCell ⟨P, 7, none⟩ x7).setCell ⟨P, 8, none⟩ x8).setCell ⟨P, 9, none⟩ x9) := by
 have h0 := h.setAt (i := 0) x0
 have h1 := h0.setAt (i := 1) x1
 have h2 := h1.setAt (i := 2) x2
 have h3 := h2.setAt (i := 3) x3
 have h4 := h3.setAt (i := 4) x4
 have h5 := h4.setAt (i := 5) x5
 have h6 := h5.setAt (i := 6) x6
 have h7 := h6.setAt (i := 7) x7
 have h8 := h7.setAt (i := 8) x8
 exact keepsL_trans (keepsL_trans (keepsL_trans (keepsL_trans (keepsL_trans (keepsL_trans (keepsL_trans (keepsL_trans (keepsL_trans (keeps_set h ht x0) (keeps_set h0 ht x1)) (keeps_set h1 ht x2)) (keeps_set h2 ht x3)) (keeps_set h3 ht x4)) (keeps_set h4 ht x5)) (keeps_set h5 ht x6)) (keeps_set h6 ht x7)) (keeps_set h7 ht x8)) (keeps_set h8 ht x9)
def zeroC : CatL := ⟨none, 0, 0, fun _ => 0, fun _ => 0⟩
def zeroI : IntL := ⟨none, 0, 0, fun _ => 0⟩
theorem zeroC_new {B : Nat} {w : World} : zeroC.new B w := ⟨⟨Nat.zero_le _, fun h => absurd h (Nat.lt_irrefl 0)⟩, fun h => absurd h (Nat.lt_irrefl 0)⟩
theorem zeroI_new {B : Nat} {w : World} : zeroI.new B w := ⟨⟨Nat.zero_le _, fun h => absurd h (Nat.lt_irrefl 0)⟩, fun h => absurd h (Nat.lt_irrefl 0)⟩
theorem zeroS_new {B : Nat} {w : World} : StrL.new B w ⟨none, 0, 0, fun _ => ⟨#[]⟩⟩ := ⟨⟨Nat.zero_le _, fun h => absurd h (Nat.lt_irrefl 0), fun i hi => absurd hi (Nat.not_lt_zero i)⟩, fun h => absurd h (Nat.lt_irrefl 0)⟩
theorem one_new {B b : Nat} {w : World} {x : Int} (h : Blk w b (.cells #[.int .i64 x] 2)) (hB : B ≤ b) : IntL.new B w ⟨some ⟨b, 0, none⟩, 1, 1, fun _ => x⟩ := by
 have r : w.rowIs b 2 1 (fun _ => .int .i64 x) := by
  refine ⟨_, h, rfl, fun i hi => ?_⟩
  obtain rfl : i = 0 := by omega
  rfl
 exact ⟨⟨by show 1 ≤ maxLen; unfold maxLen; omega, IntsAt.row r⟩, fun _ => ⟨b, 1, _, rfl, hB, Nat.le_refl 1, r⟩⟩
def madeIs (kd cat sb2 : Int) (sc2 : CatL) (kk bb : Int) (ow : IntL) (d2 : CatL) : Prop := kk = kd - 1 ∧ bb = (if kd = 5 then sb2 else 0) ∧ (if kd = 5 then sc2.same d2 else d2 = zeroC) ∧ (if 0 < cat then ow.n = 1 ∧ ow.h 0 = cat else ow = zeroI)
def MakeP (X : ThrV) (s : StepV) (lt : List ThrV) (lo : List ObjV) (t : Nat) (c : Int) (tx : ByteArray) (lt' : List ThrV) (lo' : List ObjV) : Prop :=
 ((c = 4 ∧ madeB X s lo = false ∧ tx = ⟨#[]⟩ ∧ lt' = lt ∧ lo' = lo) ∨ (c = 5 ∧ madeB X s lo = true ∧ X.made = 30 ∧ tx = ⟨#[]⟩ ∧ lt' = lt ∧ lo' = lo) ∨
    (c = 0 ∧ madeB X s lo = true ∧ X.made ≠ 30 ∧ tx = ⟨(decL (newCat X).toNat).toArray⟩ ∧ lt' = lt.set t ⟨X.id, X.b1, X.c1, X.b2, X.c2, X.own, X.made + 1⟩ ∧ ∃ (d1 d2 : CatL) (ow : IntL), s.c1.same d1 ∧ (if s.kind = 5 then s.c2.same d2 else d2 = zeroC) ∧ (if 0 < s.cat then ow.n = 1 ∧ ow.h 0 = s.cat else ow = zeroI) ∧ lo' = insL (newObj X s d1 d2 ow) lo))
set_option maxRecDepth 100000 in
set_option maxHeartbeats 16000000 in
theorem l4Make_any (lt : List ThrV) (lo : List ObjV) (g ca q co B : Nat) (w : World) (st : KSt w B (.slice (some ⟨g, 0, none⟩) lt.length ca) (.slice (some ⟨q, 0, none⟩) lo.length co) lt lo) (hB : B ≤ w.heap.size) (t : Nat) (ht : t < lt.length) (X : ThrV) (hX : X = lt[t]) (xs : X.small) (s : StepV) (hs : ∀ W, Below B w W → s.at W) (hn1 : s.c1.n ≤ 1048576) (hn2 : s.c2.n ≤ 1048576)
 (ra : RiseL X.c1) (rb : RiseL X.c2) (rc : RiseL s.c1) (hi : 1 ≤ X.id ∧ X.id ≤ 9) (hm : 0 ≤ X.made ∧ X.made ≤ 30) (hl1 : lt.length ≤ 1048576) (hl2 : lo.length ≤ 1048000) (hd : ∀ x ∈ lo, x.data.size ≤ maxLen) (hO : ∀ x ∈ lo, x.c1.n ≤ 1048576 ∧ RiseL x.c1)
 (hk : ((s.kind = 2 ∨ s.kind = 3 ∨ s.kind = 4) ∧ s.cat = 0) ∨ (s.kind = 5 ∧ 0 ≤ s.cat)) :
 Calls Tryz.prog 77 #[.agg #[.slice (some ⟨g, 0, none⟩) lt.length ca, .slice (some ⟨q, 0, none⟩) lo.length co], .int .i64 t, .agg #[.int .i64 s.th, .int .i64 s.kind, .int .i64 s.id, .int .i64 s.to, .int .i64 s.cat, .string s.data, .int .i64 s.b1, .slice s.c1.a s.c1.n s.c1.k, .int .i64 s.b2, .slice s.c2.a s.c2.n s.c2.k]] w fun e w' => ∃ (lt' : List ThrV) (lo' : List ObjV) (ob : Option Addr) (cb : Nat) (c : Int) (tx : ByteArray), e = .returned (.tuple #[.agg #[.slice (some ⟨g, 0, none⟩) lt.length ca, .slice ob lo'.length cb], .int .i64 c, .string tx]) ∧ KSt w' B (.slice (some ⟨g, 0, none⟩) lt.length ca) (.slice ob lo'.length cb) lt' lo' ∧ Below B w w' ∧
  MakeP X s lt lo t c tx lt' lo' := by
 obtain ⟨th, kd, id_, to_, cat, dat, sb1, sc1, sb2, sc2⟩ := s
 simp only at hk hn1 hn2 rc ⊢
 have HK := hid hk
 clear hk
 have XN : Hid (X.new B w ∧ (X.own.n ≤ X.own.k ∧ X.own.k ≤ maxLen)) := hid (by rw [hX]; exact ⟨st.tn _ (List.getElem_mem ht), st.tc _ (List.getElem_mem ht)⟩)
 have XA : Hid (X.at w) := hid XN.out.1.at
 obtain ⟨CW, gl⟩ := st.cell7 ht
 rw [← hX] at CW
 have b3 : Below w.heap.size w (((w.alloc (.cells #[.slice (some ⟨g, 0, none⟩) lt.length ca, .slice (some ⟨q, 0, none⟩) lo.length co] 42)).alloc (.cells #[.int .i64 th, .int .i64 kd, .int .i64 id_, .int .i64 to_, .int .i64 cat, .string dat, .int .i64 sb1, .slice sc1.a sc1.n sc1.k, .int .i64 sb2, .slice sc2.a sc2.n sc2.k] 28)).alloc (.cells #[.slice none 0 0, .slice none 0 0] 42)) := (((Below.refl _ w).alloc (Nat.le_refl _) _).alloc (by simp) _).alloc (by simp; omega) _
 have CC := CW.below gl b3
 have q0 : (((w.alloc (.cells #[.slice (some ⟨g, 0, none⟩) lt.length ca, .slice (some ⟨q, 0, none⟩) lo.length co] 42)).alloc (.cells #[.int .i64 th, .int .i64 kd, .int .i64 id_, .int .i64 to_, .int .i64 cat, .string dat, .int .i64 sb1, .slice sc1.a sc1.n sc1.k, .int .i64 sb2, .slice sc2.a sc2.n sc2.k] 28)).alloc (.cells #[.slice none 0 0, .slice none 0 0] 42)).cell? ⟨g, t * 7, none⟩ = some (.int .i64 X.id) := CC.c0
 have q1 : (((w.alloc (.cells #[.slice (some ⟨g, 0, none⟩) lt.length ca, .slice (some ⟨q, 0, none⟩) lo.length co] 42)).alloc (.cells #[.int .i64 th, .int .i64 kd, .int .i64 id_, .int .i64 to_, .int .i64 cat, .string dat, .int .i64 sb1, .slice sc1.a sc1.n sc1.k, .int .i64 sb2, .slice sc2.a sc2.n sc2.k] 28)).alloc (.cells #[.slice none 0 0, .slice none 0 0] 42)).cell? ⟨g, t * 7 + 1, none⟩ = some (.int .i64 X.b1) := CC.c1
 have q2 : (((w.alloc (.cells #[.slice (some ⟨g, 0, none⟩) lt.length ca, .slice (some ⟨q, 0, none⟩) lo.length co] 42)).alloc (.cells #[.int .i64 th, .int .i64 kd, .int .i64 id_, .int .i64 to_, .int .i64 cat, .string dat, .int .i64 sb1, .slice sc1.a sc1.n sc1.k, .int .i64 sb2, .slice sc2.a sc2.n sc2.k] 28)).alloc (.cells #[.slice none 0 0, .slice none 0 0] 42)).cell? ⟨g, t * 7 + 2, none⟩ = some (.slice X.c1.a X.c1.n X.c1.k) := CC.c2
 have q3 : (((w.alloc (.cells #[.slice (some ⟨g, 0, none⟩) lt.length ca, .slice (some ⟨q, 0, none⟩) lo.length co] 42)).alloc (.cells #[.int .i64 th, .int .i64 kd, .int .i64 id_, .int .i64 to_, .int .i64 cat, .string dat, .int .i64 sb1, .slice sc1.a sc1.n sc1.k, .int .i64 sb2, .slice sc2.a sc2.n sc2.k] 28)).alloc (.cells #[.slice none 0 0, .slice none 0 0] 42)).cell? ⟨g, t * 7 + 3, none⟩ = some (.int .i64 X.b2) := CC.c3
 have q4 : (((w.alloc (.cells #[.slice (some ⟨g, 0, none⟩) lt.length ca, .slice (some ⟨q, 0, none⟩) lo.length co] 42)).alloc (.cells #[.int .i64 th, .int .i64 kd, .int .i64 id_, .int .i64 to_, .int .i64 cat, .string dat, .int .i64 sb1, .slice sc1.a sc1.n sc1.k, .int .i64 sb2, .slice sc2.a sc2.n sc2.k] 28)).alloc (.cells #[.slice none 0 0, .slice none 0 0] 42)).cell? ⟨g, t * 7 + 4, none⟩ = some (.slice X.c2.a X.c2.n X.c2.k) := CC.c4
 have q5 : (((w.alloc (.cells #[.slice (some ⟨g, 0, none⟩) lt.length ca, .slice (some ⟨q, 0, none⟩) lo.length co] 42)).alloc (.cells #[.int .i64 th, .int .i64 kd, .int .i64 id_, .int .i64 to_, .int .i64 cat, .string dat, .int .i64 sb1, .slice sc1.a sc1.n sc1.k, .int .i64 sb2, .slice sc2.a sc2.n sc2.k] 28)).alloc (.cells #[.slice none 0 0, .slice none 0 0] 42)).cell? ⟨g, t * 7 + 5, none⟩ = some (.slice X.own.a X.own.n X.own.k) := CC.c5
 have q6 : (((w.alloc (.cells #[.slice (some ⟨g, 0, none⟩) lt.length ca, .slice (some ⟨q, 0, none⟩) lo.length co] 42)).alloc (.cells #[.int .i64 th, .int .i64 kd, .int .i64 id_, .int .i64 to_, .int .i64 cat, .string dat, .int .i64 sb1, .slice sc1.a sc1.n sc1.k, .int .i64 sb2, .slice sc2.a sc2.n sc2.k] 28)).alloc (.cells #[.slice none 0 0, .slice none 0 0] 42)).cell? ⟨g, t * 7 + 6, none⟩ = some (.int .i64 X.made) := CC.c6
 have b0 : Below w.heap.size w ((((w.alloc (.cells #[.slice (some ⟨g, 0, none⟩) lt.length ca, .slice (some ⟨q, 0, none⟩) lo.length co] 42)).alloc (.cells #[.int .i64 th, .int .i64 kd, .int .i64 id_, .int .i64 to_, .int .i64 cat, .string dat, .int .i64 sb1, .slice sc1.a sc1.n sc1.k, .int .i64 sb2, .slice sc2.a sc2.n sc2.k] 28)).alloc (.cells #[.slice none 0 0, .slice none 0 0] 42)).alloc (.cells #[.int .i64 X.id, .int .i64 X.b1, .slice X.c1.a X.c1.n X.c1.k, .int .i64 X.b2, .slice X.c2.a X.c2.n X.c2.k, .slice X.own.a X.own.n X.own.k, .int .i64 X.made] 79)) := ((((Below.refl _ w).alloc (Nat.le_refl _) _).alloc (by simp) _).alloc (by simp; omega) _).alloc (by simp; omega) _
 have A0 : Blk ((((w.alloc (.cells #[.slice (some ⟨g, 0, none⟩) lt.length ca, .slice (some ⟨q, 0, none⟩) lo.length co] 42)).alloc (.cells #[.int .i64 th, .int .i64 kd, .int .i64 id_, .int .i64 to_, .int .i64 cat, .string dat, .int .i64 sb1, .slice sc1.a sc1.n sc1.k, .int .i64 sb2, .slice sc2.a sc2.n sc2.k] 28)).alloc (.cells #[.slice none 0 0, .slice none 0 0] 42)).alloc (.cells #[.int .i64 X.id, .int .i64 X.b1, .slice X.c1.a X.c1.n X.c1.k, .int .i64 X.b2, .slice X.c2.a X.c2.n X.c2.k, .slice X.own.a X.own.n X.own.k, .int .i64 X.made] 79)) w.heap.size (.cells #[.slice (some ⟨g, 0, none⟩) lt.length ca, .slice (some ⟨q, 0, none⟩) lo.length co] 42) := (((Blk.new w _).alloc _).alloc _).alloc _
 have P0 : Blk ((((w.alloc (.cells #[.slice (some ⟨g, 0, none⟩) lt.length ca, .slice (some ⟨q, 0, none⟩) lo.length co] 42)).alloc (.cells #[.int .i64 th, .int .i64 kd, .int .i64 id_, .int .i64 to_, .int .i64 cat, .string dat, .int .i64 sb1, .slice sc1.a sc1.n sc1.k, .int .i64 sb2, .slice sc2.a sc2.n sc2.k] 28)).alloc (.cells #[.slice none 0 0, .slice none 0 0] 42)).alloc (.cells #[.int .i64 X.id, .int .i64 X.b1, .slice X.c1.a X.c1.n X.c1.k, .int .i64 X.b2, .slice X.c2.a X.c2.n X.c2.k, .slice X.own.a X.own.n X.own.k, .int .i64 X.made] 79)) (w.heap.size + 1) (.cells #[.int .i64 th, .int .i64 kd, .int .i64 id_, .int .i64 to_, .int .i64 cat, .string dat, .int .i64 sb1, .slice sc1.a sc1.n sc1.k, .int .i64 sb2, .slice sc2.a sc2.n sc2.k] 28) := by have := ((Blk.new (w.alloc (.cells #[.slice (some ⟨g, 0, none⟩) lt.length ca, .slice (some ⟨q, 0, none⟩) lo.length co] 42)) (.cells #[.int .i64 th, .int .i64 kd, .int .i64 id_, .int .i64 to_, .int .i64 cat, .string dat, .int .i64 sb1, .slice sc1.a sc1.n sc1.k, .int .i64 sb2, .slice sc2.a sc2.n sc2.k] 28)).alloc (.cells #[.slice none 0 0, .slice none 0 0] 42)).alloc (.cells #[.int .i64 X.id, .int .i64 X.b1, .slice X.c1.a X.c1.n X.c1.k, .int .i64 X.b2, .slice X.c2.a X.c2.n X.c2.k, .slice X.own.a X.own.n X.own.k, .int .i64 X.made] 79); simpa using this
 have R0 : Blk ((((w.alloc (.cells #[.slice (some ⟨g, 0, none⟩) lt.length ca, .slice (some ⟨q, 0, none⟩) lo.length co] 42)).alloc (.cells #[.int .i64 th, .int .i64 kd, .int .i64 id_, .int .i64 to_, .int .i64 cat, .string dat, .int .i64 sb1, .slice sc1.a sc1.n sc1.k, .int .i64 sb2, .slice sc2.a sc2.n sc2.k] 28)).alloc (.cells #[.slice none 0 0, .slice none 0 0] 42)).alloc (.cells #[.int .i64 X.id, .int .i64 X.b1, .slice X.c1.a X.c1.n X.c1.k, .int .i64 X.b2, .slice X.c2.a X.c2.n X.c2.k, .slice X.own.a X.own.n X.own.k, .int .i64 X.made] 79)) (w.heap.size + 1 + 1) (.cells #[.slice none 0 0, .slice none 0 0] 42) := by have := (Blk.new ((w.alloc (.cells #[.slice (some ⟨g, 0, none⟩) lt.length ca, .slice (some ⟨q, 0, none⟩) lo.length co] 42)).alloc (.cells #[.int .i64 th, .int .i64 kd, .int .i64 id_, .int .i64 to_, .int .i64 cat, .string dat, .int .i64 sb1, .slice sc1.a sc1.n sc1.k, .int .i64 sb2, .slice sc2.a sc2.n sc2.k] 28)) (.cells #[.slice none 0 0, .slice none 0 0] 42)).alloc (.cells #[.int .i64 X.id, .int .i64 X.b1, .slice X.c1.a X.c1.n X.c1.k, .int .i64 X.b2, .slice X.c2.a X.c2.n X.c2.k, .slice X.own.a X.own.n X.own.k, .int .i64 X.made] 79); simpa using this
 have X0 : Blk ((((w.alloc (.cells #[.slice (some ⟨g, 0, none⟩) lt.length ca, .slice (some ⟨q, 0, none⟩) lo.length co] 42)).alloc (.cells #[.int .i64 th, .int .i64 kd, .int .i64 id_, .int .i64 to_, .int .i64 cat, .string dat, .int .i64 sb1, .slice sc1.a sc1.n sc1.k, .int .i64 sb2, .slice sc2.a sc2.n sc2.k] 28)).alloc (.cells #[.slice none 0 0, .slice none 0 0] 42)).alloc (.cells #[.int .i64 X.id, .int .i64 X.b1, .slice X.c1.a X.c1.n X.c1.k, .int .i64 X.b2, .slice X.c2.a X.c2.n X.c2.k, .slice X.own.a X.own.n X.own.k, .int .i64 X.made] 79)) (w.heap.size + 1 + 1 + 1) (.cells #[.int .i64 X.id, .int .i64 X.b1, .slice X.c1.a X.c1.n X.c1.k, .int .i64 X.b2, .slice X.c2.a X.c2.n X.c2.k, .slice X.own.a X.own.n X.own.k, .int .i64 X.made] 79) := by have := Blk.new (((w.alloc (.cells #[.slice (some ⟨g, 0, none⟩) lt.length ca, .slice (some ⟨q, 0, none⟩) lo.length co] 42)).alloc (.cells #[.int .i64 th, .int .i64 kd, .int .i64 id_, .int .i64 to_, .int .i64 cat, .string dat, .int .i64 sb1, .slice sc1.a sc1.n sc1.k, .int .i64 sb2, .slice sc2.a sc2.n sc2.k] 28)).alloc (.cells #[.slice none 0 0, .slice none 0 0] 42)) (.cells #[.int .i64 X.id, .int .i64 X.b1, .slice X.c1.a X.c1.n X.c1.k, .int .i64 X.b2, .slice X.c2.a X.c2.n X.c2.k, .slice X.own.a X.own.n X.own.k, .int .i64 X.made] 79); simpa using this
 have HS := hid (st.below b0)
 have HB := hid b0
 have HA := hid A0
 have HP := hid P0
 have HR := hid R0
 have HX := hid X0
 have SA := hid hs
 have EX := hid hX
 have i0 : (0 : Int) ≤ (t : Int) := by omega
 have i1 : (t : Int) < (lt.length : Int) := by omega
 clear CC CW b3 b0 A0 P0 R0 X0 hs hX st
 go_enter Tryz.func77, Tryz.ntmps77
 obtain ⟨x0, x1⟩ := HA.out.two
 obtain ⟨s0, s1, s2, s3, s4, s5, s6, s7, s8, s9⟩ := HP.out.ten
 obtain ⟨y0, y1, y2, y3, y4, y5, y6⟩ := HX.out.seven
 go_wp2_with fail
 have BX : Hid (∀ W, Below ((((w.alloc (.cells #[.slice (some ⟨g, 0, none⟩) lt.length ca, .slice (some ⟨q, 0, none⟩) lo.length co] 42)).alloc (.cells #[.int .i64 th, .int .i64 kd, .int .i64 id_, .int .i64 to_, .int .i64 cat, .string dat, .int .i64 sb1, .slice sc1.a sc1.n sc1.k, .int .i64 sb2, .slice sc2.a sc2.n sc2.k] 28)).alloc (.cells #[.slice none 0 0, .slice none 0 0] 42)).alloc (.cells #[.int .i64 X.id, .int .i64 X.b1, .slice X.c1.a X.c1.n X.c1.k, .int .i64 X.b2, .slice X.c2.a X.c2.n X.c2.k, .slice X.own.a X.own.n X.own.k, .int .i64 X.made] 79)).heap.size ((((w.alloc (.cells #[.slice (some ⟨g, 0, none⟩) lt.length ca, .slice (some ⟨q, 0, none⟩) lo.length co] 42)).alloc (.cells #[.int .i64 th, .int .i64 kd, .int .i64 id_, .int .i64 to_, .int .i64 cat, .string dat, .int .i64 sb1, .slice sc1.a sc1.n sc1.k, .int .i64 sb2, .slice sc2.a sc2.n sc2.k] 28)).alloc (.cells #[.slice none 0 0, .slice none 0 0] 42)).alloc (.cells #[.int .i64 X.id, .int .i64 X.b1, .slice X.c1.a X.c1.n X.c1.k, .int .i64 X.b2, .slice X.c2.a X.c2.n X.c2.k, .slice X.own.a X.own.n X.own.k, .int .i64 X.made] 79)) W → Blk W w.heap.size (.cells #[.slice (some ⟨g, 0, none⟩) lt.length ca, .slice (some ⟨q, 0, none⟩) lo.length co] 42) ∧ Blk W (w.heap.size + 1) (.cells #[.int .i64 th, .int .i64 kd, .int .i64 id_, .int .i64 to_, .int .i64 cat, .string dat, .int .i64 sb1, .slice sc1.a sc1.n sc1.k, .int .i64 sb2, .slice sc2.a sc2.n sc2.k] 28) ∧ Blk W (w.heap.size + 1 + 1) (.cells #[.slice none 0 0, .slice none 0 0] 42) ∧ Blk W (w.heap.size + 1 + 1 + 1) (.cells #[.int .i64 X.id, .int .i64 X.b1, .slice X.c1.a X.c1.n X.c1.k, .int .i64 X.b2, .slice X.c2.a X.c2.n X.c2.k, .slice X.own.a X.own.n X.own.k, .int .i64 X.made] 79) ∧ KSt W B (.slice (some ⟨g, 0, none⟩) lt.length ca) (.slice (some ⟨q, 0, none⟩) lo.length co) lt lo) := hid (fun W hW => ⟨HA.out.below hW, HP.out.below hW, HR.out.below hW, HX.out.below hW, HS.out.below hW⟩)
 have LW : Hid (∀ W, Below ((((w.alloc (.cells #[.slice (some ⟨g, 0, none⟩) lt.length ca, .slice (some ⟨q, 0, none⟩) lo.length co] 42)).alloc (.cells #[.int .i64 th, .int .i64 kd, .int .i64 id_, .int .i64 to_, .int .i64 cat, .string dat, .int .i64 sb1, .slice sc1.a sc1.n sc1.k, .int .i64 sb2, .slice sc2.a sc2.n sc2.k] 28)).alloc (.cells #[.slice none 0 0, .slice none 0 0] 42)).alloc (.cells #[.int .i64 X.id, .int .i64 X.b1, .slice X.c1.a X.c1.n X.c1.k, .int .i64 X.b2, .slice X.c2.a X.c2.n X.c2.k, .slice X.own.a X.own.n X.own.k, .int .i64 X.made] 79)).heap.size ((((w.alloc (.cells #[.slice (some ⟨g, 0, none⟩) lt.length ca, .slice (some ⟨q, 0, none⟩) lo.length co] 42)).alloc (.cells #[.int .i64 th, .int .i64 kd, .int .i64 id_, .int .i64 to_, .int .i64 cat, .string dat, .int .i64 sb1, .slice sc1.a sc1.n sc1.k, .int .i64 sb2, .slice sc2.a sc2.n sc2.k] 28)).alloc (.cells #[.slice none 0 0, .slice none 0 0] 42)).alloc (.cells #[.int .i64 X.id, .int .i64 X.b1, .slice X.c1.a X.c1.n X.c1.k, .int .i64 X.b2, .slice X.c2.a X.c2.n X.c2.k, .slice X.own.a X.own.n X.own.k, .int .i64 X.made] 79)) W → Below w.heap.size w W) := hid (fun W hW => then_ HB.out hW)
 have LB : Hid (∀ W, Below ((((w.alloc (.cells #[.slice (some ⟨g, 0, none⟩) lt.length ca, .slice (some ⟨q, 0, none⟩) lo.length co] 42)).alloc (.cells #[.int .i64 th, .int .i64 kd, .int .i64 id_, .int .i64 to_, .int .i64 cat, .string dat, .int .i64 sb1, .slice sc1.a sc1.n sc1.k, .int .i64 sb2, .slice sc2.a sc2.n sc2.k] 28)).alloc (.cells #[.slice none 0 0, .slice none 0 0] 42)).alloc (.cells #[.int .i64 X.id, .int .i64 X.b1, .slice X.c1.a X.c1.n X.c1.k, .int .i64 X.b2, .slice X.c2.a X.c2.n X.c2.k, .slice X.own.a X.own.n X.own.k, .int .i64 X.made] 79)).heap.size ((((w.alloc (.cells #[.slice (some ⟨g, 0, none⟩) lt.length ca, .slice (some ⟨q, 0, none⟩) lo.length co] 42)).alloc (.cells #[.int .i64 th, .int .i64 kd, .int .i64 id_, .int .i64 to_, .int .i64 cat, .string dat, .int .i64 sb1, .slice sc1.a sc1.n sc1.k, .int .i64 sb2, .slice sc2.a sc2.n sc2.k] 28)).alloc (.cells #[.slice none 0 0, .slice none 0 0] 42)).alloc (.cells #[.int .i64 X.id, .int .i64 X.b1, .slice X.c1.a X.c1.n X.c1.k, .int .i64 X.b2, .slice X.c2.a X.c2.n X.c2.k, .slice X.own.a X.own.n X.own.k, .int .i64 X.made] 79)) W → Below B w W) := hid (fun W hW => (then_ HB.out hW).mono hB)
 have V0 := hid (Below.refl ((((w.alloc (.cells #[.slice (some ⟨g, 0, none⟩) lt.length ca, .slice (some ⟨q, 0, none⟩) lo.length co] 42)).alloc (.cells #[.int .i64 th, .int .i64 kd, .int .i64 id_, .int .i64 to_, .int .i64 cat, .string dat, .int .i64 sb1, .slice sc1.a sc1.n sc1.k, .int .i64 sb2, .slice sc2.a sc2.n sc2.k] 28)).alloc (.cells #[.slice none 0 0, .slice none 0 0] 42)).alloc (.cells #[.int .i64 X.id, .int .i64 X.b1, .slice X.c1.a X.c1.n X.c1.k, .int .i64 X.b2, .slice X.c2.a X.c2.n X.c2.k, .slice X.own.a X.own.n X.own.k, .int .i64 X.made] 79)).heap.size ((((w.alloc (.cells #[.slice (some ⟨g, 0, none⟩) lt.length ca, .slice (some ⟨q, 0, none⟩) lo.length co] 42)).alloc (.cells #[.int .i64 th, .int .i64 kd, .int .i64 id_, .int .i64 to_, .int .i64 cat, .string dat, .int .i64 sb1, .slice sc1.a sc1.n sc1.k, .int .i64 sb2, .slice sc2.a sc2.n sc2.k] 28)).alloc (.cells #[.slice none 0 0, .slice none 0 0] 42)).alloc (.cells #[.int .i64 X.id, .int .i64 X.b1, .slice X.c1.a X.c1.n X.c1.k, .int .i64 X.b2, .slice X.c2.a X.c2.n X.c2.k, .slice X.own.a X.own.n X.own.k, .int .i64 X.made] 79)))
 clear x0 x1 s0 s1 s2 s3 s4 s5 s6 s7 s8 s9 y0 y1 y2 y3 y4 y5 y6 q0 q1 q2 q3 q4 q5 q6 HA HP HR HX HS
 have ZV := hid (Nat.le_trans hB HB.out.size)
 generalize ((((w.alloc (.cells #[.slice (some ⟨g, 0, none⟩) lt.length ca, .slice (some ⟨q, 0, none⟩) lo.length co] 42)).alloc (.cells #[.int .i64 th, .int .i64 kd, .int .i64 id_, .int .i64 to_, .int .i64 cat, .string dat, .int .i64 sb1, .slice sc1.a sc1.n sc1.k, .int .i64 sb2, .slice sc2.a sc2.n sc2.k] 28)).alloc (.cells #[.slice none 0 0, .slice none 0 0] 42)).alloc (.cells #[.int .i64 X.id, .int .i64 X.b1, .slice X.c1.a X.c1.n X.c1.k, .int .i64 X.b2, .slice X.c2.a X.c2.n X.c2.k, .slice X.own.a X.own.n X.own.k, .int .i64 X.made] 79)) = V at *
 have KO := hid (fun W (hW : Below V.heap.size V W) => find_v (BX.out W hW).2.2.2.2 hl1 (by omega) hd id_)
 refine (KO.out _ V0.out).mono ?_
 rintro e w1 ⟨rfl, hb1⟩
 have V1 := hid (then_ V0.out hb1)
 clear hb1 KO
 have D0 := hid (below_drew V1.out)
 have MB : Hid (madeB X ⟨th, kd, id_, to_, cat, dat, sb1, sc1, sb2, sc2⟩ lo = match atL lo id_ with | none => false | some u => decide ((atOwnOb lo u).kind = 3) && changesB X (atOwnOb lo u).b1 (atOwnOb lo u).c1 && flowB X.b1 X.c1 X.own sb1 sc1 && flowB sb1 sc1 X.own X.b2 X.c2 && (!decide (0 < cat) || hasB X.own.n X.own.h cat)) := hid rfl
 cases hu : atL lo id_ with
 | none =>
  rw [hu] at MB
  simp only [idxI] at MB ⊢
  have j0 : decide (((-1 : Int)) < 0) = true := rfl
  go_wp2_with fail
  refine wp_region_G 42 (fun W => Below V.heap.size V W) (by kernel_rfl) ?_
  refine tq 0 21 (.int .i64 (-1)) D0.out ?_
  simp only [ap, List.set]
  refine tq 1 22 (.bool true) D0.out ?_
  simp only [ap, List.set]
  refine tq 2 23 (.bool true) D0.out ?_
  simp only [ap, List.set]
  refine sks 7 [(3, 24), (4, 25), (5, 26), (6, 27), (7, 28), (8, 29), (9, 30)] rfl (by kernel_rfl) D0.out ?_
  simp only [putsU, ap, List.set]
  refine tq 10 31 (.bool true) D0.out ?_
  simp only [ap, List.set]
  refine tq 11 32 (.bool true) D0.out ?_
  simp only [ap, List.set]
  refine sks 9 [(12, 33), (13, 34), (14, 35), (15, 36), (16, 37), (17, 38), (18, 39), (19, 40), (20, 41)] rfl (by kernel_rfl) D0.out ?_
  simp only [putsU, ap, List.set]
  refine tq 21 42 (.bool true) D0.out ?_
  simp only [ap, List.set]
  refine tq 22 43 (.bool true) D0.out ?_
  simp only [ap, List.set]
  refine sks 8 [(23, 44), (24, 45), (25, 46), (26, 47), (27, 48), (28, 49), (29, 50), (30, 51)] rfl (by kernel_rfl) D0.out ?_
  simp only [putsU, ap, List.set]
  refine tq 31 52 (.bool true) D0.out ?_
  simp only [ap, List.set]
  refine tq 32 53 (.bool true) D0.out ?_
  simp only [ap, List.set]
  refine sks 8 [(33, 54), (34, 55), (35, 56), (36, 57), (37, 58), (38, 59), (39, 60), (40, 61)] rfl (by kernel_rfl) D0.out ?_
  simp only [putsU, ap, List.set]
  refine tq 41 62 (.bool true) D0.out ?_
  simp only [ap, List.set]
  refine wpAnyG_done (by kernel_rfl) ?_ _
  have VL := hid (D0.out)
  clear D0
  generalize w1.drew = wd at *
  obtain ⟨x0, x1⟩ := (BX.out _ VL.out).1.two
  obtain ⟨s0, s1, s2, s3, s4, s5, s6, s7, s8, s9⟩ := (BX.out _ VL.out).2.1.ten
  obtain ⟨r0, r1⟩ := (BX.out _ VL.out).2.2.1.two
  have rf := (BX.out _ VL.out).2.2.1.warm
  obtain ⟨y0, y1, y2, y3, y4, y5, y6⟩ := (BX.out _ VL.out).2.2.2.1.seven
  go_wp2
  have RB := hid (BX.out _ VL.out).2.2.1
  have KB := hid (BX.out _ VL.out).2.2.2.2
  refine bodyPost_ret (self_results _ _ (w.heap.size + 1 + 1) 6 _ _ _ _ Tryz.results77 ((RB.out.setAt (i := 0) _).setAt (i := 1) _) rfl rfl rfl) rfl ⟨lt, lo, some ⟨q, 0, none⟩, co, 4, _, rfl, ?_, ?_, .inl ⟨rfl, MB.out, rfl, rfl, rfl⟩⟩
  ·exact (KB.out.set RB.out (.inl rfl) _).set (RB.out.setAt (i := 0) _) (.inl rfl) _
  ·exact ((LB.out _ VL.out).setCell (by dsimp only; omega) _).setCell (by dsimp only; omega) _
 | some u =>
  rw [hu] at MB
  obtain ⟨ul, eu⟩ := atL_some hu
  have eo : atOwnOb lo u = lo[u] := by simp [atOwnOb, ul]
  obtain ⟨o, ho⟩ : ∃ o, o = lo[u] := ⟨_, rfl⟩
  have HO := hid (hO _ (List.getElem_mem ul))
  have EO := hid ho
  simp only [idxI, eo] at MB ⊢
  rw [← ho] at MB HO
  clear eu hu ho eo
  have j0 : decide (((u : Nat) : Int) < 0) = false := decide_eq_false (by omega)
  have j1 : (u : Int) < (lo.length : Int) := by omega
  have j2 : (0 : Int) ≤ (u : Int) := by omega
  have OC : Hid (∀ W, Below V.heap.size V W → W.cell? ⟨q, u * 10, none⟩ = some (.int .i64 o.id) ∧ W.cell? ⟨q, u * 10 + 1, none⟩ = some (.int .i64 o.kind) ∧ W.cell? ⟨q, u * 10 + 2, none⟩ = some (.int .i64 o.up) ∧ W.cell? ⟨q, u * 10 + 3, none⟩ = some (.int .i64 o.b1) ∧ W.cell? ⟨q, u * 10 + 4, none⟩ = some (.slice o.c1.a o.c1.n o.c1.k) ∧ W.cell? ⟨q, u * 10 + 5, none⟩ = some (.string o.data) ∧ W.cell? ⟨q, u * 10 + 6, none⟩ = some (.slice o.items.a o.items.n o.items.k) ∧ W.cell? ⟨q, u * 10 + 7, none⟩ = some (.slice o.own.a o.own.n o.own.k) ∧ W.cell? ⟨q, u * 10 + 8, none⟩ = some (.int .i64 o.b2) ∧ W.cell? ⟨q, u * 10 + 9, none⟩ = some (.slice o.c2.a o.c2.n o.c2.k)) := hid (fun W hW => by
   have C := ((BX.out _ hW).2.2.2.2.cell10 ul hd).1
   rw [← EO.out] at C
   exact ⟨C.c0, C.c1, C.c2, C.c3, C.c4, C.c5, C.c6, C.c7, C.c8, C.c9⟩)
  have E2 : Hid (∀ args w, (callFunc 93 args).run Tryz.prog w = .ok (.enter 93 args) w) := hid (enters_of Tryz.func93 (by kernel_rfl) rfl)
  have E3 : Hid (∀ args w, (callFunc 90 args).run Tryz.prog w = .ok (.enter 90 args) w) := hid (enters_of Tryz.func90 (by kernel_rfl) rfl)
  have F2 : Hid (∀ W, Below w.heap.size w W → Below V.heap.size V W → Calls Tryz.prog 93 #[.agg #[.int .i64 X.id, .int .i64 X.b1, .slice X.c1.a X.c1.n X.c1.k, .int .i64 X.b2, .slice X.c2.a X.c2.n X.c2.k, .slice X.own.a X.own.n X.own.k, .int .i64 X.made], .agg #[.int .i64 o.b1, .slice o.c1.a o.c1.n o.c1.k]] W fun e w' => ∃ v, e = .returned v ∧ (v = .bool (changesB X o.b1 o.c1) ∧ Below W.heap.size W w')) := hid (fun W hW hV => calls_v <| changes_v X o.b1 o.c1 W (XA.out.below hW) xs ra (by
   have := ((BX.out _ hV).2.2.2.2.on _ (List.getElem_mem ul)).1.1
   rw [← EO.out] at this
   exact this) HO.out.1 HO.out.2)
  have F3 : Hid (∀ W, Below w.heap.size w W → Calls Tryz.prog 90 #[.agg #[.int .i64 X.b1, .slice X.c1.a X.c1.n X.c1.k], .slice X.own.a X.own.n X.own.k, .agg #[.int .i64 sb1, .slice sc1.a sc1.n sc1.k]] W fun e w' => ∃ v, e = .returned v ∧ (v = .bool (flowB X.b1 X.c1 X.own sb1 sc1) ∧ Below W.heap.size W w')) := hid (fun W hW => calls_v <| flows_v _ X.c1 X.own _ sc1 W (XA.out.below hW).1 (XA.out.below hW).2.2 (SA.out _ (hW.mono hB)).1 xs.1 hn1 ra rc)
  have F4 : Hid (∀ W, Below w.heap.size w W → Calls Tryz.prog 90 #[.agg #[.int .i64 sb1, .slice sc1.a sc1.n sc1.k], .slice X.own.a X.own.n X.own.k, .agg #[.int .i64 X.b2, .slice X.c2.a X.c2.n X.c2.k]] W fun e w' => ∃ v, e = .returned v ∧ (v = .bool (flowB sb1 sc1 X.own X.b2 X.c2) ∧ Below W.heap.size W w')) := hid (fun W hW => calls_v <| flows_v _ sc1 X.own _ X.c2 W (SA.out _ (hW.mono hB)).1 (XA.out.below hW).2.2 (XA.out.below hW).2.1 hn1 xs.2.1 rc rb)
  have F5 : Hid (∀ W, Below w.heap.size w W → Calls Tryz.prog 92 #[.slice X.own.a X.own.n X.own.k, .int .i64 cat] W fun e w' => e = .returned (.bool (hasB X.own.n X.own.h cat)) ∧ w' = W) := hid (fun W hW => has_v X.own cat W (XA.out.below hW).2.2)
  generalize changesB X o.b1 o.c1 = c2 at *
  generalize flowB X.b1 X.c1 X.own sb1 sc1 = c3 at *
  generalize flowB sb1 sc1 X.own X.b2 X.c2 = c4 at *
  generalize hasB X.own.n X.own.h cat = c5 at *
  by_cases k3 : o.kind = 3
  ·have k3' : (o.kind == 3) = true := by simpa using k3
   have k3'' : decide (o.kind = 3) = true := decide_eq_true k3
   have k4 : (o.kind != 3) = false := by simp [k3]
   rw [k3'', Bool.true_and] at MB
   clear k3
   go_wp2_with fail
   refine wp_region_G 42 (fun W => Below V.heap.size V W) (by kernel_rfl) ?_
   refine tq 0 21 (.int .i64 u) D0.out ?_
   simp only [ap, List.set]
   refine tq 1 22 (.bool false) D0.out ?_
   simp only [ap, List.set]
   refine tq 2 23 (.bool false) D0.out ?_
   simp only [ap, List.set]
   refine tq 3 24 (.pointer (some ⟨w.heap.size, 1, none⟩)) D0.out ?_
   simp only [ap, List.set]
   refine tq 4 25 (.slice (some ⟨q, 0, none⟩) lo.length co) D0.out ?_ (hy := fun W h => by obtain ⟨z0, z1⟩ := (BX.out W h).1.two; go_simp)
   simp only [ap, List.set]
   refine tq 5 26 (.int .i64 u) D0.out ?_
   simp only [ap, List.set]
   refine tq 6 27 (.pointer (some ⟨q, u * 10, none⟩)) D0.out ?_
   simp only [ap, List.set]
   refine tq 7 28 (.pointer (some ⟨q, u * 10 + 1, none⟩)) D0.out ?_
   simp only [ap, List.set]
   refine tq 8 29 (.int .i64 o.kind) D0.out ?_ (hy := fun W h => by obtain ⟨z0, z1, z2, z3, z4, z5, z6, z7, z8, z9⟩ := OC.out W h; go_simp)
   simp only [ap, List.set]
   refine tq 9 30 (.bool false) D0.out ?_
   simp only [ap, List.set]
   refine tq 10 31 (.bool false) D0.out ?_
   simp only [ap, List.set]
   refine tq 11 32 (.bool false) D0.out ?_
   simp only [ap, List.set]
   refine tq 12 33 (.agg #[.int .i64 X.id, .int .i64 X.b1, .slice X.c1.a X.c1.n X.c1.k, .int .i64 X.b2, .slice X.c2.a X.c2.n X.c2.k, .slice X.own.a X.own.n X.own.k, .int .i64 X.made]) D0.out ?_ (hy := fun W h => by obtain ⟨z0, z1, z2, z3, z4, z5, z6⟩ := (BX.out W h).2.2.2.1.seven; go_simp)
   simp only [ap, List.set]
   refine tq 13 34 (.pointer (some ⟨w.heap.size, 1, none⟩)) D0.out ?_
   simp only [ap, List.set]
   refine tq 14 35 (.slice (some ⟨q, 0, none⟩) lo.length co) D0.out ?_ (hy := fun W h => by obtain ⟨z0, z1⟩ := (BX.out W h).1.two; go_simp)
   simp only [ap, List.set]
   refine tq 15 36 (.int .i64 u) D0.out ?_
   simp only [ap, List.set]
   refine tq 16 37 (.pointer (some ⟨q, u * 10, none⟩)) D0.out ?_
   simp only [ap, List.set]
   refine tq 17 38 (.pointer (some ⟨q, u * 10 + 3, none⟩)) D0.out ?_
   simp only [ap, List.set]
   refine tq 18 39 (.agg #[.int .i64 o.b1, .slice o.c1.a o.c1.n o.c1.k]) D0.out ?_ (hy := fun W h => by obtain ⟨z0, z1, z2, z3, z4, z5, z6, z7, z8, z9⟩ := OC.out W h; go_simp)
   simp only [ap, List.set]
   refine wpAnyG_one (i := 19) (by kernel_rfl) rfl ?_
   intro K hK
   refine step_call2g (by rfl) 93 _ _ _ (by rfl) E2.out _ _ (by rfl) (by rfl) (some 40) (by rfl) _ (F2.out _ (LW.out _ D0.out) D0.out) ?_
   rintro v w2 ⟨rfl, hb⟩
   have H1 := then_ D0.out hb
   refine hK.out _ _ (fun _ => H1) ?_
   clear hK K hb
   simp only [ap, List.set]
   refine tq 20 41 (.bool (!c2)) H1 ?_
   simp only [ap, List.set]
   refine tq 21 42 (.bool (!c2)) H1 ?_
   simp only [ap, List.set]
   refine tq 22 43 (.bool (!c2)) H1 ?_
   simp only [ap, List.set]
   cases c2
   ·simp only [Bool.not_false, Bool.false_and] at MB ⊢
    refine sks 8 [(23, 44), (24, 45), (25, 46), (26, 47), (27, 48), (28, 49), (29, 50), (30, 51)] rfl (by kernel_rfl) H1 ?_
    simp only [putsU, ap, List.set]
    refine tq 31 52 (.bool true) H1 ?_
    simp only [ap, List.set]
    refine tq 32 53 (.bool true) H1 ?_
    simp only [ap, List.set]
    refine sks 8 [(33, 54), (34, 55), (35, 56), (36, 57), (37, 58), (38, 59), (39, 60), (40, 61)] rfl (by kernel_rfl) H1 ?_
    simp only [putsU, ap, List.set]
    refine tq 41 62 (.bool true) H1 ?_
    simp only [ap, List.set]
    refine wpAnyG_done (by kernel_rfl) ?_ _
    have VL := hid (H1)
    obtain ⟨x0, x1⟩ := (BX.out _ VL.out).1.two
    obtain ⟨s0, s1, s2, s3, s4, s5, s6, s7, s8, s9⟩ := (BX.out _ VL.out).2.1.ten
    obtain ⟨r0, r1⟩ := (BX.out _ VL.out).2.2.1.two
    have rf := (BX.out _ VL.out).2.2.1.warm
    obtain ⟨y0, y1, y2, y3, y4, y5, y6⟩ := (BX.out _ VL.out).2.2.2.1.seven
    go_wp2
    have RB := hid (BX.out _ VL.out).2.2.1
    have KB := hid (BX.out _ VL.out).2.2.2.2
    refine bodyPost_ret (self_results _ _ (w.heap.size + 1 + 1) 6 _ _ _ _ Tryz.results77 ((RB.out.setAt (i := 0) _).setAt (i := 1) _) rfl rfl rfl) rfl ⟨lt, lo, some ⟨q, 0, none⟩, co, 4, _, rfl, ?_, ?_, .inl ⟨rfl, MB.out, rfl, rfl, rfl⟩⟩
    ·exact (KB.out.set RB.out (.inl rfl) _).set (RB.out.setAt (i := 0) _) (.inl rfl) _
    ·exact ((LB.out _ VL.out).setCell (by dsimp only; omega) _).setCell (by dsimp only; omega) _
   simp only [Bool.not_true, Bool.true_and] at MB ⊢
   refine tq 23 44 (.pointer (some ⟨w.heap.size + 1 + 1 + 1, 1, none⟩)) H1 ?_
   simp only [ap, List.set]
   refine tq 24 45 (.agg #[.int .i64 X.b1, .slice X.c1.a X.c1.n X.c1.k]) H1 ?_ (hy := fun W h => by obtain ⟨z0, z1, z2, z3, z4, z5, z6⟩ := (BX.out W h).2.2.2.1.seven; go_simp)
   simp only [ap, List.set]
   refine tq 25 46 (.pointer (some ⟨w.heap.size + 1 + 1 + 1, 5, none⟩)) H1 ?_
   simp only [ap, List.set]
   refine tq 26 47 (.slice X.own.a X.own.n X.own.k) H1 ?_ (hy := fun W h => by obtain ⟨z0, z1, z2, z3, z4, z5, z6⟩ := (BX.out W h).2.2.2.1.seven; go_simp)
   simp only [ap, List.set]
   refine tq 27 48 (.pointer (some ⟨w.heap.size + 1, 6, none⟩)) H1 ?_
   simp only [ap, List.set]
   refine tq 28 49 (.agg #[.int .i64 sb1, .slice sc1.a sc1.n sc1.k]) H1 ?_ (hy := fun W h => by obtain ⟨z0, z1, z2, z3, z4, z5, z6, z7, z8, z9⟩ := (BX.out W h).2.1.ten; go_simp)
   simp only [ap, List.set]
   refine wpAnyG_one (i := 29) (by kernel_rfl) rfl ?_
   intro K hK
   refine step_call3g (by rfl) 90 _ _ _ _ (by rfl) E3.out _ _ _ (by rfl) (by rfl) (by rfl) (some 50) (by rfl) _ (F3.out _ (LW.out _ H1)) ?_
   rintro v w3 ⟨rfl, hb⟩
   have H2 := then_ H1 hb
   refine hK.out _ _ (fun _ => H2) ?_
   clear hK K hb
   simp only [ap, List.set]
   refine tq 30 51 (.bool (!c3)) H2 ?_
   simp only [ap, List.set]
   refine tq 31 52 (.bool (!c3)) H2 ?_
   simp only [ap, List.set]
   refine tq 32 53 (.bool (!c3)) H2 ?_
   simp only [ap, List.set]
   cases c3
   ·simp only [Bool.not_false, Bool.false_and] at MB ⊢
    refine sks 8 [(33, 54), (34, 55), (35, 56), (36, 57), (37, 58), (38, 59), (39, 60), (40, 61)] rfl (by kernel_rfl) H2 ?_
    simp only [putsU, ap, List.set]
    refine tq 41 62 (.bool true) H2 ?_
    simp only [ap, List.set]
    refine wpAnyG_done (by kernel_rfl) ?_ _
    have VL := hid (H2)
    obtain ⟨x0, x1⟩ := (BX.out _ VL.out).1.two
    obtain ⟨s0, s1, s2, s3, s4, s5, s6, s7, s8, s9⟩ := (BX.out _ VL.out).2.1.ten
    obtain ⟨r0, r1⟩ := (BX.out _ VL.out).2.2.1.two
    have rf := (BX.out _ VL.out).2.2.1.warm
    obtain ⟨y0, y1, y2, y3, y4, y5, y6⟩ := (BX.out _ VL.out).2.2.2.1.seven
    go_wp2
    have RB := hid (BX.out _ VL.out).2.2.1
    have KB := hid (BX.out _ VL.out).2.2.2.2
    refine bodyPost_ret (self_results _ _ (w.heap.size + 1 + 1) 6 _ _ _ _ Tryz.results77 ((RB.out.setAt (i := 0) _).setAt (i := 1) _) rfl rfl rfl) rfl ⟨lt, lo, some ⟨q, 0, none⟩, co, 4, _, rfl, ?_, ?_, .inl ⟨rfl, MB.out, rfl, rfl, rfl⟩⟩
    ·exact (KB.out.set RB.out (.inl rfl) _).set (RB.out.setAt (i := 0) _) (.inl rfl) _
    ·exact ((LB.out _ VL.out).setCell (by dsimp only; omega) _).setCell (by dsimp only; omega) _
   simp only [Bool.not_true, Bool.true_and] at MB ⊢
   refine tq 33 54 (.pointer (some ⟨w.heap.size + 1, 6, none⟩)) H2 ?_
   simp only [ap, List.set]
   refine tq 34 55 (.agg #[.int .i64 sb1, .slice sc1.a sc1.n sc1.k]) H2 ?_ (hy := fun W h => by obtain ⟨z0, z1, z2, z3, z4, z5, z6, z7, z8, z9⟩ := (BX.out W h).2.1.ten; go_simp)
   simp only [ap, List.set]
   refine tq 35 56 (.pointer (some ⟨w.heap.size + 1 + 1 + 1, 5, none⟩)) H2 ?_
   simp only [ap, List.set]
   refine tq 36 57 (.slice X.own.a X.own.n X.own.k) H2 ?_ (hy := fun W h => by obtain ⟨z0, z1, z2, z3, z4, z5, z6⟩ := (BX.out W h).2.2.2.1.seven; go_simp)
   simp only [ap, List.set]
   refine tq 37 58 (.pointer (some ⟨w.heap.size + 1 + 1 + 1, 3, none⟩)) H2 ?_
   simp only [ap, List.set]
   refine tq 38 59 (.agg #[.int .i64 X.b2, .slice X.c2.a X.c2.n X.c2.k]) H2 ?_ (hy := fun W h => by obtain ⟨z0, z1, z2, z3, z4, z5, z6⟩ := (BX.out W h).2.2.2.1.seven; go_simp)
   simp only [ap, List.set]
   refine wpAnyG_one (i := 39) (by kernel_rfl) rfl ?_
   intro K hK
   refine step_call3g (by rfl) 90 _ _ _ _ (by rfl) E3.out _ _ _ (by rfl) (by rfl) (by rfl) (some 60) (by rfl) _ (F4.out _ (LW.out _ H2)) ?_
   rintro v w4 ⟨rfl, hb⟩
   have H3 := then_ H2 hb
   refine hK.out _ _ (fun _ => H3) ?_
   clear hK K hb
   simp only [ap, List.set]
   refine tq 40 61 (.bool (!c4)) H3 ?_
   simp only [ap, List.set]
   refine tq 41 62 (.bool (!c4)) H3 ?_
   simp only [ap, List.set]
   refine wpAnyG_done (by kernel_rfl) ?_ _
   cases c4
   ·simp only [Bool.not_false, Bool.false_and] at MB ⊢
    have VL := hid (H3)
    obtain ⟨x0, x1⟩ := (BX.out _ VL.out).1.two
    obtain ⟨s0, s1, s2, s3, s4, s5, s6, s7, s8, s9⟩ := (BX.out _ VL.out).2.1.ten
    obtain ⟨r0, r1⟩ := (BX.out _ VL.out).2.2.1.two
    have rf := (BX.out _ VL.out).2.2.1.warm
    obtain ⟨y0, y1, y2, y3, y4, y5, y6⟩ := (BX.out _ VL.out).2.2.2.1.seven
    go_wp2
    have RB := hid (BX.out _ VL.out).2.2.1
    have KB := hid (BX.out _ VL.out).2.2.2.2
    refine bodyPost_ret (self_results _ _ (w.heap.size + 1 + 1) 6 _ _ _ _ Tryz.results77 ((RB.out.setAt (i := 0) _).setAt (i := 1) _) rfl rfl rfl) rfl ⟨lt, lo, some ⟨q, 0, none⟩, co, 4, _, rfl, ?_, ?_, .inl ⟨rfl, MB.out, rfl, rfl, rfl⟩⟩
    ·exact (KB.out.set RB.out (.inl rfl) _).set (RB.out.setAt (i := 0) _) (.inl rfl) _
    ·exact ((LB.out _ VL.out).setCell (by dsimp only; omega) _).setCell (by dsimp only; omega) _
   simp only [Bool.not_true, Bool.true_and] at MB ⊢
   have VL := hid H3
   clear H1 H2 H3
   obtain ⟨x0, x1⟩ := (BX.out _ VL.out).1.two
   obtain ⟨s0, s1, s2, s3, s4, s5, s6, s7, s8, s9⟩ := (BX.out _ VL.out).2.1.ten
   obtain ⟨r0, r1⟩ := (BX.out _ VL.out).2.2.1.two
   have rf := (BX.out _ VL.out).2.2.1.warm
   obtain ⟨y0, y1, y2, y3, y4, y5, y6⟩ := (BX.out _ VL.out).2.2.2.1.seven
   have w1_ : IntKind.i64.wrap (1000 * X.id) = 1000 * X.id := by rw [IntKind.wrap_i64]; omega
   have w2_ : IntKind.i64.wrap (1000 * X.id + X.made) = 1000 * X.id + X.made := by rw [IntKind.wrap_i64]; omega
   have w3_ : IntKind.i64.wrap (1000 * X.id + X.made + 1) = 1000 * X.id + X.made + 1 := by rw [IntKind.wrap_i64]; omega
   have w4_ : IntKind.i64.wrap (X.made + 1) = X.made + 1 := by rw [IntKind.wrap_i64]; omega
   go_upto_region 5 with fail
   go_cut [74] from 12 (fun v wc => v = .bool (decide (0 < cat) && !c5) ∧ w4 = wc)
   case first =>
    by_cases hc : 0 < cat
    ·have hc' : decide (0 < cat) = true := decide_eq_true hc
     go_wp2_with fail
     refine (F5.out _ (LW.out _ VL.out)).mono ?_
     rintro e w5 ⟨rfl, rfl⟩
     go_wp2_with fail
     go_meet
     case rel => exact ⟨by rw [hc']; cases c5 <;> rfl, rfl⟩
    ·have hc' : decide (0 < cat) = false := decide_eq_false hc
     go_wp2_with fail
     go_meet
     case rel => exact ⟨by rw [hc']; rfl, rfl⟩
   case rest =>
   obtain ⟨rfl, rfl⟩ := hcut
   have ez : (!decide (0 < cat) || c5) = !(decide (0 < cat) && !c5) := by cases decide (0 < cat) <;> cases c5 <;> rfl
   rw [ez] at MB
   clear ez
   generalize (decide (0 < cat) && !c5) = zz at *
   cases zz with
   | true =>
    go_wp2_with fail
    have RB := hid (BX.out _ VL.out).2.2.1
    have KB := hid (BX.out _ VL.out).2.2.2.2
    refine bodyPost_ret (self_results _ _ (w.heap.size + 1 + 1) 6 _ _ _ _ Tryz.results77 ((RB.out.setAt (i := 0) _).setAt (i := 1) _) rfl rfl rfl) rfl ⟨lt, lo, some ⟨q, 0, none⟩, co, 4, _, rfl, ?_, ?_, .inl ⟨rfl, MB.out, rfl, rfl, rfl⟩⟩
    ·exact (KB.out.set RB.out (.inl rfl) _).set (RB.out.setAt (i := 0) _) (.inl rfl) _
    ·exact ((LB.out _ VL.out).setCell (by dsimp only; omega) _).setCell (by dsimp only; omega) _
   | false =>
    by_cases h3 : X.made = 30
    ·have h3' : (X.made == 30) = true := by simpa using h3
     have h3'' : decide (X.made = 30) = true := decide_eq_true h3
     have H3 := hid h3
     clear h3
     go_wp2_with fail
     have RB := hid (BX.out _ VL.out).2.2.1
     have KB := hid (BX.out _ VL.out).2.2.2.2
     refine bodyPost_ret (self_results _ _ (w.heap.size + 1 + 1) 6 _ _ _ _ Tryz.results77 ((RB.out.setAt (i := 0) _).setAt (i := 1) _) rfl rfl rfl) rfl ⟨lt, lo, some ⟨q, 0, none⟩, co, 5, _, rfl, ?_, ?_, .inr (.inl ⟨rfl, MB.out, H3.out, rfl, rfl, rfl⟩)⟩
     ·exact (KB.out.set RB.out (.inl rfl) _).set (RB.out.setAt (i := 0) _) (.inl rfl) _
     ·exact ((LB.out _ VL.out).setCell (by dsimp only; omega) _).setCell (by dsimp only; omega) _
    have h3' : (X.made == 30) = false := by simpa using h3
    have h3'' : decide (X.made = 30) = false := decide_eq_false h3
    have H3 := hid h3
    clear h3
    have KB := hid (BX.out _ VL.out).2.2.2.2
    have CC := (KB.out.cell7 ht).1
    rw [← EX.out] at CC
    have c0 := CC.c0
    have c1 := CC.c1
    have c2 := CC.c2
    have c3 := CC.c3
    have c4 := CC.c4
    have c5 := CC.c5
    have c6 := CC.c6
    have GF := hid (KB.out.setMade (m := X.made + 1) ht EX.out)
    have gf := GF.out.2.1.choose_spec.warm
    have ng1 : ¬ g = w.heap.size := by omega
    have ng2 : ¬ g = w.heap.size + 1 := by omega
    have ng3 : ¬ g = w.heap.size + 1 + 1 := by omega
    have ng4 : ¬ g = w.heap.size + 1 + 1 + 1 := by omega
    clear CC
    go_wp2_with fail
    have A7 := hid ((BX.out _ VL.out).1.other (Q := g) ng1 (i := t * 7 + 6) (.int .i64 (X.made + 1)))
    have P7 := hid ((BX.out _ VL.out).2.1.other (Q := g) ng2 (i := t * 7 + 6) (.int .i64 (X.made + 1)))
    have R7 := hid ((BX.out _ VL.out).2.2.1.other (Q := g) ng3 (i := t * 7 + 6) (.int .i64 (X.made + 1)))
    have X7 := hid ((BX.out _ VL.out).2.2.2.1.other (Q := g) ng4 (i := t * 7 + 6) (.int .i64 (X.made + 1)))
    have L7 : Hid (Below B w (w4.setCell ⟨g, t * 7 + 6, none⟩ (.int .i64 (X.made + 1)))) := hid ((LB.out _ VL.out).setCell (by dsimp only; exact GF.out.2.2) _)
    have S7 : Hid (w.heap.size ≤ (w4.setCell ⟨g, t * 7 + 6, none⟩ (.int .i64 (X.made + 1))).heap.size) := hid (by rw [nblk_setCell]; exact (LW.out _ VL.out).size)
    have SC7 : Hid (sc1.at (w4.setCell ⟨g, t * 7 + 6, none⟩ (.int .i64 (X.made + 1))) ∧ sc2.at (w4.setCell ⟨g, t * 7 + 6, none⟩ (.int .i64 (X.made + 1)))) := hid (let h := SA.out _ L7.out; ⟨h.1, h.2.1⟩)
    have K7 := hid GF.out.1
    have gB := GF.out.2.2
    clear gf GF KB c0 c1 c2 c3 c4 c5 c6 x0 x1 s0 s1 s2 s3 s4 s5 s6 s7 s8 s9 r0 r1 rf y0 y1 y2 y3 y4 y5 y6 BX
    generalize (w4.setCell ⟨g, t * 7 + 6, none⟩ (.int .i64 (X.made + 1))) = W7 at *
    obtain ⟨LS, eLS⟩ : ∃ l, l = lt.set t (⟨X.id, X.b1, X.c1, X.b2, X.c2, X.own, X.made + 1⟩ : ThrV) := ⟨_, rfl⟩
    rw [← eLS] at K7
    have el1 : LS.length = lt.length := by rw [eLS]; simp
    rw [← el1] at K7
    have EL := hid eLS
    clear eLS
    have BX : Hid (∀ W, Below W7.heap.size W7 W → Blk W w.heap.size (.cells #[.slice (some ⟨g, 0, none⟩) lt.length ca, .slice (some ⟨q, 0, none⟩) lo.length co] 42) ∧ Blk W (w.heap.size + 1) (.cells #[.int .i64 th, .int .i64 kd, .int .i64 id_, .int .i64 to_, .int .i64 cat, .string dat, .int .i64 sb1, .slice sc1.a sc1.n sc1.k, .int .i64 sb2, .slice sc2.a sc2.n sc2.k] 28) ∧ Blk W (w.heap.size + 1 + 1) (.cells #[.slice none 0 0, .slice none 0 0] 42) ∧ Blk W (w.heap.size + 1 + 1 + 1) (.cells #[.int .i64 X.id, .int .i64 X.b1, .slice X.c1.a X.c1.n X.c1.k, .int .i64 X.b2, .slice X.c2.a X.c2.n X.c2.k, .slice X.own.a X.own.n X.own.k, .int .i64 X.made] 79) ∧ KSt W B (.slice (some ⟨g, 0, none⟩) LS.length ca) (.slice (some ⟨q, 0, none⟩) lo.length co) LS lo) := hid (fun W hW => ⟨A7.out.below hW, P7.out.below hW, R7.out.below hW, X7.out.below hW, K7.out.below hW⟩)
    have LB7 : Hid (∀ W, Below W7.heap.size W7 W → Below B w W) := hid (fun W hW => L7.out.trans (hW.mono (Nat.le_trans hB S7.out)))
    have D7 := hid (below_drew (Below.refl W7.heap.size W7))
    clear A7 P7 R7 X7 VL V1 D0 LB LW F2 F3 F4 F5 OC L7
    have PC : Hid (∀ W, Below W7.heap.size W7 W → Calls Tryz.prog 91 #[.agg #[.int .i64 sb1, .slice sc1.a sc1.n sc1.k]] W fun e w' => ∃ v, e = .returned v ∧ (∃ d : CatL, v = .agg #[.int .i64 sb1, .slice d.a d.n d.k] ∧ sc1.same d ∧ d.new W.heap.size w' ∧ Below W.heap.size W w')) := hid (fun W hW => (l3CopyLabel_any sb1 sc1 W (SC7.out.1.below hW) hn1).mono fun _ _ ⟨d, e1, h1, h2, h3⟩ => ⟨_, e1, d, rfl, h1, h2, h3⟩)
    have E4 : Hid (∀ args w, (callFunc 91 args).run Tryz.prog w = .ok (.enter 91 args) w) := hid (enters_of Tryz.func91 (by kernel_rfl) rfl)
    go_upto_region 10 with fail
    go_cut [11] from 12 (fun v wc => ∃ (Q : Nat) (d : CatL), v = .pointer (some ⟨Q, 0, none⟩) ∧ Below W7.heap.size W7 wc ∧ Blk wc Q (.cells #[.int .i64 (1000 * X.id + X.made + 1), .int .i64 0, .int .i64 id_, .int .i64 sb1, .slice d.a d.n d.k, .string (ByteArray.mk #[]), .slice none 0 0, .slice none 0 0, .int .i64 0, .slice none 0 0] 88) ∧ W7.heap.size ≤ Q ∧ d.new B wc ∧ sc1.same d)
    case first =>
     refine wp_region_G 15 (fun W => Below W7.heap.size W7 W) (by kernel_rfl) ?_
     refine tq 0 88 (.pointer (some ⟨w.heap.size + 1 + 1 + 1, 0, none⟩)) D7.out ?_
     simp only [ap, List.set]
     refine tq 1 89 (.int .i64 X.id) D7.out ?_ (hy := fun W h => by obtain ⟨z0, z1, z2, z3, z4, z5, z6⟩ := (BX.out W h).2.2.2.1.seven; go_simp)
     simp only [ap, List.set]
     refine tq 2 90 (.int .i64 (1000 * X.id)) D7.out ?_
     simp only [ap, List.set]
     refine tq 3 91 (.pointer (some ⟨w.heap.size + 1 + 1 + 1, 6, none⟩)) D7.out ?_
     simp only [ap, List.set]
     refine tq 4 92 (.int .i64 X.made) D7.out ?_ (hy := fun W h => by obtain ⟨z0, z1, z2, z3, z4, z5, z6⟩ := (BX.out W h).2.2.2.1.seven; go_simp)
     simp only [ap, List.set]
     refine tq 5 93 (.int .i64 (1000 * X.id + X.made)) D7.out ?_
     simp only [ap, List.set]
     refine tq 6 94 (.int .i64 (1000 * X.id + X.made + 1)) D7.out ?_
     simp only [ap, List.set]
     refine tq 7 95 (.pointer (some ⟨w.heap.size + 1, 2, none⟩)) D7.out ?_
     simp only [ap, List.set]
     refine tq 8 96 (.int .i64 id_) D7.out ?_ (hy := fun W h => by obtain ⟨z0, z1, z2, z3, z4, z5, z6, z7, z8, z9⟩ := (BX.out W h).2.1.ten; go_simp)
     simp only [ap, List.set]
     refine tq 9 97 (.pointer (some ⟨w.heap.size + 1, 6, none⟩)) D7.out ?_
     simp only [ap, List.set]
     refine tq 10 98 (.agg #[.int .i64 sb1, .slice sc1.a sc1.n sc1.k]) D7.out ?_ (hy := fun W h => by obtain ⟨z0, z1, z2, z3, z4, z5, z6, z7, z8, z9⟩ := (BX.out W h).2.1.ten; go_simp)
     simp only [ap, List.set]
     refine wpAnyG_two (i := 11) (j := 13) (by kernel_rfl) rfl rfl ?_ ?_
     ·intro K hK
      refine step_call1g (by rfl) 91 _ _ (by rfl) E4.out _ (by rfl) (some 99) (by rfl) _ (PC.out _ D7.out) ?_
      rintro v w8 ⟨d, rfl, sd, nd, hb⟩
      have H8 := then_ D7.out hb
      have SD := hid sd
      have ND := hid (nd.low (Nat.le_trans hB (Nat.le_trans S7.out D7.out.size)))
      refine hK.out _ _ (fun _ => H8) ?_
      clear hK K hb sd nd
      simp only [ap, List.set]
      refine tq 12 100 (.agg #[.int .i64 (1000 * X.id + X.made + 1), .int .i64 0, .int .i64 id_, .int .i64 sb1, .slice d.a d.n d.k, .string (ByteArray.mk #[]), .slice none 0 0, .slice none 0 0, .int .i64 0, .slice none 0 0]) H8 ?_
      simp only [ap, List.set]
      refine wpAnyG_one (i := 13) (by kernel_rfl) rfl ?_
      intro K hK
      go_simp
      refine hK.out _ _ (fun _ => H8.alloc H8.size (.cells #[.int .i64 0, .int .i64 0, .int .i64 0, .int .i64 0, .slice none 0 0, .string ⟨#[]⟩, .slice none 0 0, .slice none 0 0, .int .i64 0, .slice none 0 0] 88)) ?_
      clear hK K
      try simp only [ap, List.set]
      refine wpAnyG_one (i := 14) (by kernel_rfl) rfl ?_
      intro K hK
      go_simp
      refine hK.out _ _ (fun _ => H8.alloc H8.size (.cells #[.int .i64 (1000 * X.id + X.made + 1), .int .i64 0, .int .i64 id_, .int .i64 sb1, .slice d.a d.n d.k, .string (ByteArray.mk #[]), .slice none 0 0, .slice none 0 0, .int .i64 0, .slice none 0 0] 88)) ?_
      clear hK K
      try simp only [ap, List.set]
      refine wpAnyG_done (by kernel_rfl) ?_ _
      have VP := hid (H8.alloc H8.size (.cells #[.int .i64 (1000 * X.id + X.made + 1), .int .i64 0, .int .i64 id_, .int .i64 sb1, .slice d.a d.n d.k, .string (ByteArray.mk #[]), .slice none 0 0, .slice none 0 0, .int .i64 0, .slice none 0 0] 88))
      have OP := hid (Blk.new w8 (.cells #[.int .i64 (1000 * X.id + X.made + 1), .int .i64 0, .int .i64 id_, .int .i64 sb1, .slice d.a d.n d.k, .string (ByteArray.mk #[]), .slice none 0 0, .slice none 0 0, .int .i64 0, .slice none 0 0] 88))
      have NP := hid H8.size
      have DP := hid (ND.out.keeps (KeepsK.of_below ((Below.refl w8.heap.size w8).alloc (Nat.le_refl _) (.cells #[.int .i64 (1000 * X.id + X.made + 1), .int .i64 0, .int .i64 id_, .int .i64 sb1, .slice d.a d.n d.k, .string (ByteArray.mk #[]), .slice none 0 0, .slice none 0 0, .int .i64 0, .slice none 0 0] 88))).l)
      clear H8 ND
      generalize w8.alloc (.cells #[.int .i64 (1000 * X.id + X.made + 1), .int .i64 0, .int .i64 id_, .int .i64 sb1, .slice d.a d.n d.k, .string (ByteArray.mk #[]), .slice none 0 0, .slice none 0 0, .int .i64 0, .slice none 0 0] 88) = W9 at *
      generalize w8.heap.size = Q at *
      go_wp2_with fail
      go_meet
      case rel => exact ⟨_, d, rfl, VP.out, OP.out, NP.out, DP.out, SD.out⟩
     ·intro K hK
      go_simp
      refine hK.out _ _ (fun _ => below_drew ((Below.refl W7.heap.size W7).alloc (Nat.le_refl _) (.cells #[.int .i64 0, .int .i64 0, .int .i64 0, .int .i64 0, .slice none 0 0, .string ⟨#[]⟩, .slice none 0 0, .slice none 0 0, .int .i64 0, .slice none 0 0] 88))) ?_
      clear hK K
      try simp only [ap, List.set]
      have T7 := hid (below_drew ((Below.refl W7.heap.size W7).alloc (Nat.le_refl _) (.cells #[.int .i64 0, .int .i64 0, .int .i64 0, .int .i64 0, .slice none 0 0, .string ⟨#[]⟩, .slice none 0 0, .slice none 0 0, .int .i64 0, .slice none 0 0] 88)))
      refine wpAnyG_one (i := 11) (by kernel_rfl) rfl ?_
      intro K hK
      refine step_call1g (by rfl) 91 _ _ (by rfl) E4.out _ (by rfl) (some 99) (by rfl) _ (PC.out _ T7.out) ?_
      rintro v w8 ⟨d, rfl, sd, nd, hb⟩
      have H8 := then_ T7.out hb
      have SD := hid sd
      have ND := hid (nd.low (Nat.le_trans hB (Nat.le_trans S7.out T7.out.size)))
      have O8 : Hid (Blk w8 W7.heap.size (.cells #[.int .i64 0, .int .i64 0, .int .i64 0, .int .i64 0, .slice none 0 0, .string ⟨#[]⟩, .slice none 0 0, .slice none 0 0, .int .i64 0, .slice none 0 0] 88)) := hid ((show Blk (W7.alloc (.cells #[.int .i64 0, .int .i64 0, .int .i64 0, .int .i64 0, .slice none 0 0, .string ⟨#[]⟩, .slice none 0 0, .slice none 0 0, .int .i64 0, .slice none 0 0] 88)).drew W7.heap.size (.cells #[.int .i64 0, .int .i64 0, .int .i64 0, .int .i64 0, .slice none 0 0, .string ⟨#[]⟩, .slice none 0 0, .slice none 0 0, .int .i64 0, .slice none 0 0] 88) from Blk.new W7 _).below hb)
      refine hK.out _ _ (fun _ => H8) ?_
      clear hK K hb sd nd T7
      simp only [ap, List.set]
      refine tq 12 100 (.agg #[.int .i64 (1000 * X.id + X.made + 1), .int .i64 0, .int .i64 id_, .int .i64 sb1, .slice d.a d.n d.k, .string (ByteArray.mk #[]), .slice none 0 0, .slice none 0 0, .int .i64 0, .slice none 0 0]) H8 ?_
      simp only [ap, List.set]
      obtain ⟨o0, o1, o2, o3, o4, o5, o6, o7, o8, o9⟩ := O8.out.ten
      have of := O8.out.warm
      have VP := hid (set10 H8 (Nat.le_refl _) (.int .i64 (1000 * X.id + X.made + 1)) (.int .i64 0) (.int .i64 id_) (.int .i64 sb1) (.slice d.a d.n d.k) (.string (ByteArray.mk #[])) (.slice none 0 0) (.slice none 0 0) (.int .i64 0) (.slice none 0 0))
      refine wpAnyG_one (i := 14) (by kernel_rfl) rfl ?_
      intro K hK
      go_simp
      refine hK.out _ _ (fun _ => VP.out) ?_
      clear hK K
      try simp only [ap, List.set]
      refine wpAnyG_done (by kernel_rfl) ?_ _
      have OP := hid (blk_set10 O8.out (.int .i64 (1000 * X.id + X.made + 1)) (.int .i64 0) (.int .i64 id_) (.int .i64 sb1) (.slice d.a d.n d.k) (.string (ByteArray.mk #[])) (.slice none 0 0) (.slice none 0 0) (.int .i64 0) (.slice none 0 0))
      skip
      have DP := hid (ND.out.keeps (keeps_set10 O8.out (by decide) (.int .i64 (1000 * X.id + X.made + 1)) (.int .i64 0) (.int .i64 id_) (.int .i64 sb1) (.slice d.a d.n d.k) (.string (ByteArray.mk #[])) (.slice none 0 0) (.slice none 0 0) (.int .i64 0) (.slice none 0 0)))
      clear H8 ND O8 o0 o1 o2 o3 o4 o5 o6 o7 o8 o9 of
      generalize ((((((((((w8.setCell ⟨W7.heap.size, 0, none⟩ (.int .i64 (1000 * X.id + X.made + 1))).setCell ⟨W7.heap.size, 1, none⟩ (.int .i64 0)).setCell ⟨W7.heap.size, 2, none⟩ (.int .i64 id_)).setCell ⟨W7.heap.size, 3, none⟩ (.int .i64 sb1)).setCell ⟨W7.heap.size, 4, none⟩ (.slice d.a d.n d.k)).setCell ⟨W7.heap.size, 5, none⟩ (.string (ByteArray.mk #[]))).setCell ⟨W7.heap.size, 6, none⟩ (.slice none 0 0)).setCell ⟨W7.heap.size, 7, none⟩ (.slice none 0 0)).setCell ⟨W7.heap.size, 8, none⟩ (.int .i64 0)).setCell ⟨W7.heap.size, 9, none⟩ (.slice none 0 0)) = W9 at *
      generalize hQ : W7.heap.size = Q
      rw [hQ] at OP
      have NP : Hid (W7.heap.size ≤ Q) := hid (Nat.le_of_eq hQ)
      clear hQ
      go_wp2_with fail
      go_meet
      case rel => exact ⟨_, d, rfl, VP.out, OP.out, NP.out, DP.out, SD.out⟩
    case rest =>
    obtain ⟨Q, d, rfl, vp, op, np, dp, sd⟩ := hcut
    have VP := hid vp
    have OP := hid op
    have NP := hid np
    have DP := hid dp
    have SD := hid sd
    clear vp op np dp sd D7
    generalize wc = W9 at *
    obtain ⟨x0, x1⟩ := (BX.out _ VP.out).1.two
    obtain ⟨s0, s1, s2, s3, s4, s5, s6, s7, s8, s9⟩ := (BX.out _ VP.out).2.1.ten
    obtain ⟨r0, r1⟩ := (BX.out _ VP.out).2.2.1.two
    have rf := (BX.out _ VP.out).2.2.1.warm
    obtain ⟨y0, y1, y2, y3, y4, y5, y6⟩ := (BX.out _ VP.out).2.2.2.1.seven
    go_upto_block 0 with fail
    go_cut [] from 12 (fun wc => ∃ (kk bb : Int) (ow : IntL) (d2 : CatL), Below W7.heap.size W7 wc ∧ Blk wc Q (.cells #[.int .i64 (1000 * X.id + X.made + 1), .int .i64 kk, .int .i64 id_, .int .i64 sb1, .slice d.a d.n d.k, .string (ByteArray.mk #[]), .slice none 0 0, .slice ow.a ow.n ow.k, .int .i64 bb, .slice d2.a d2.n d2.k] 88) ∧ ObjV.new B wc ⟨1000 * X.id + X.made + 1, kk, id_, sb1, d, ⟨#[]⟩, ⟨none, 0, 0, fun _ => ⟨#[]⟩⟩, ow, bb, d2⟩ ∧ madeIs kd cat sb2 sc2 kk bb ow d2)
    case first =>
     rcases HK.out with ⟨h5 | h5 | h5, h0⟩ | ⟨h5, h0⟩
     ·subst h5
      have HC0 := hid h0
      clear h0
      obtain ⟨o0, o1, o2, o3, o4, o5, o6, o7, o8, o9⟩ := OP.out.ten
      have of := OP.out.warm
      go_wp2_with fail
      have O12 := hid (OP.out.setAt (i := 1) (.int .i64 1))
      have V12 : Hid (Below W7.heap.size W7 (W9.setCell ⟨Q, 1, none⟩ (.int .i64 1))) := hid (VP.out.setCell (by dsimp only; exact NP.out) _)
      have D12 := hid (DP.out.keeps (keeps_set (i := 1) OP.out (by decide) (.int .i64 1)))
      clear o0 o1 o2 o3 o4 o5 o6 o7 o8 o9 of x0 x1 s0 s1 s2 s3 s4 s5 s6 s7 s8 s9 r0 r1 rf y0 y1 y2 y3 y4 y5 y6 OP VP DP
      generalize (W9.setCell ⟨Q, 1, none⟩ (.int .i64 1)) = W12 at *
      have NEW : Hid (ObjV.new B W12 (⟨1000 * X.id + X.made + 1, 1, id_, sb1, d, ⟨#[]⟩, ⟨none, 0, 0, fun _ => ⟨#[]⟩⟩, zeroI, 0, zeroC⟩)) := hid ⟨D12.out, zeroS_new, zeroI_new, zeroC_new⟩
      go_meet
      case rel => exact ⟨1, 0, zeroI, zeroC, V12.out, O12.out, NEW.out, by unfold madeIs; rw [HC0.out]; exact ⟨rfl, rfl, rfl, rfl⟩⟩
     ·subst h5
      have HC0 := hid h0
      clear h0
      obtain ⟨o0, o1, o2, o3, o4, o5, o6, o7, o8, o9⟩ := OP.out.ten
      have of := OP.out.warm
      go_wp2_with fail
      have O12 := hid (OP.out.setAt (i := 1) (.int .i64 2))
      have V12 : Hid (Below W7.heap.size W7 (W9.setCell ⟨Q, 1, none⟩ (.int .i64 2))) := hid (VP.out.setCell (by dsimp only; exact NP.out) _)
      have D12 := hid (DP.out.keeps (keeps_set (i := 1) OP.out (by decide) (.int .i64 2)))
      clear o0 o1 o2 o3 o4 o5 o6 o7 o8 o9 of x0 x1 s0 s1 s2 s3 s4 s5 s6 s7 s8 s9 r0 r1 rf y0 y1 y2 y3 y4 y5 y6 OP VP DP
      generalize (W9.setCell ⟨Q, 1, none⟩ (.int .i64 2)) = W12 at *
      have NEW : Hid (ObjV.new B W12 (⟨1000 * X.id + X.made + 1, 2, id_, sb1, d, ⟨#[]⟩, ⟨none, 0, 0, fun _ => ⟨#[]⟩⟩, zeroI, 0, zeroC⟩)) := hid ⟨D12.out, zeroS_new, zeroI_new, zeroC_new⟩
      go_meet
      case rel => exact ⟨2, 0, zeroI, zeroC, V12.out, O12.out, NEW.out, by unfold madeIs; rw [HC0.out]; exact ⟨rfl, rfl, rfl, rfl⟩⟩
     ·subst h5
      have HC0 := hid h0
      clear h0
      obtain ⟨o0, o1, o2, o3, o4, o5, o6, o7, o8, o9⟩ := OP.out.ten
      have of := OP.out.warm
      go_wp2_with fail
      have O12 := hid (OP.out.setAt (i := 1) (.int .i64 3))
      have V12 : Hid (Below W7.heap.size W7 (W9.setCell ⟨Q, 1, none⟩ (.int .i64 3))) := hid (VP.out.setCell (by dsimp only; exact NP.out) _)
      have D12 := hid (DP.out.keeps (keeps_set (i := 1) OP.out (by decide) (.int .i64 3)))
      clear o0 o1 o2 o3 o4 o5 o6 o7 o8 o9 of x0 x1 s0 s1 s2 s3 s4 s5 s6 s7 s8 s9 r0 r1 rf y0 y1 y2 y3 y4 y5 y6 OP VP DP
      generalize (W9.setCell ⟨Q, 1, none⟩ (.int .i64 3)) = W12 at *
      have NEW : Hid (ObjV.new B W12 (⟨1000 * X.id + X.made + 1, 3, id_, sb1, d, ⟨#[]⟩, ⟨none, 0, 0, fun _ => ⟨#[]⟩⟩, zeroI, 0, zeroC⟩)) := hid ⟨D12.out, zeroS_new, zeroI_new, zeroC_new⟩
      go_meet
      case rel => exact ⟨3, 0, zeroI, zeroC, V12.out, O12.out, NEW.out, by unfold madeIs; rw [HC0.out]; exact ⟨rfl, rfl, rfl, rfl⟩⟩
     ·subst h5
      by_cases hc : 0 < cat
      ·have hc' : decide (0 < cat) = true := decide_eq_true hc
       have HC := hid hc
       clear hc
       obtain ⟨o0, o1, o2, o3, o4, o5, o6, o7, o8, o9⟩ := OP.out.ten
       have of := OP.out.warm
       go_wp2_with fail
       have O10 : Hid (Blk (W9.setCell ⟨Q, 1, none⟩ (.int .i64 4)) Q (.cells #[.int .i64 (1000 * X.id + X.made + 1), .int .i64 4, .int .i64 id_, .int .i64 sb1, .slice d.a d.n d.k, .string (ByteArray.mk #[]), .slice none 0 0, .slice none 0 0, .int .i64 0, .slice none 0 0] 88)) := hid (by have h := OP.out.setAt (i := 1) (.int .i64 4); simpa using h)
       have V10 : Hid (Below W7.heap.size W7 (W9.setCell ⟨Q, 1, none⟩ (.int .i64 4))) := hid (VP.out.setCell (by dsimp only; exact NP.out) _)
       have D10 := hid (DP.out.keeps (keeps_set (i := 1) OP.out (by decide) (.int .i64 4)))
       clear o0 o1 o2 o3 o4 o5 o6 o7 o8 o9 of x0 x1 s0 s1 s2 s3 s4 s5 s6 s7 s8 s9 r0 r1 rf y0 y1 y2 y3 y4 y5 y6 OP VP DP
       generalize (W9.setCell ⟨Q, 1, none⟩ (.int .i64 4)) = W10 at *
       have P2 : Hid (∀ W, Below W7.heap.size W7 W → Calls Tryz.prog 91 #[.agg #[.int .i64 sb2, .slice sc2.a sc2.n sc2.k]] W fun e w' => ∃ d : CatL, e = .returned (.agg #[.int .i64 sb2, .slice d.a d.n d.k]) ∧ sc2.same d ∧ d.new W.heap.size w' ∧ Below W.heap.size W w') := hid (fun W hW => l3CopyLabel_any sb2 sc2 W (SC7.out.2.below hW) hn2)
       refine (P2.out _ V10.out).mono ?_
       rintro e w11 ⟨d2, rfl, sd2, nd2, b11⟩
       have V11 := hid (then_ V10.out b11)
       have O11 := hid (O10.out.below b11)
       have D11 := hid (D10.out.keeps (KeepsK.of_below b11).l)
       have N11 := hid (nd2.low (Nat.le_trans hB (Nat.le_trans S7.out V10.out.size)))
       have SD2 := hid sd2
       clear sd2 nd2 b11 V10 O10 D10
       obtain ⟨x0, x1⟩ := (BX.out _ V11.out).1.two
       obtain ⟨s0, s1, s2, s3, s4, s5, s6, s7, s8, s9⟩ := (BX.out _ V11.out).2.1.ten
       obtain ⟨r0, r1⟩ := (BX.out _ V11.out).2.2.1.two
       have rf := (BX.out _ V11.out).2.2.1.warm
       obtain ⟨y0, y1, y2, y3, y4, y5, y6⟩ := (BX.out _ V11.out).2.2.2.1.seven
       obtain ⟨o0, o1, o2, o3, o4, o5, o6, o7, o8, o9⟩ := O11.out.ten
       have of := O11.out.warm
       have nq1 : ¬ Q = w.heap.size + 1 := by have h1 := (BX.out _ (Below.refl W7.heap.size W7)).2.1.lt; have h2 := NP.out; omega
       have nq2 : ¬ w.heap.size + 1 = Q := fun h => nq1 h.symm
       have QL : Q < w11.heap.size := O11.out.lt
       have QL1 : ¬ w11.heap.size = Q := by omega
       have QL2 : ¬ Q = w11.heap.size := by omega
       have PL : ¬ w11.heap.size = w.heap.size + 1 := by have h1 := (BX.out _ V11.out).2.1.lt; omega
       have PL2 : ¬ w.heap.size + 1 = w11.heap.size := fun h => PL h.symm
       go_wp2_with fail
       have O12 : Hid (Blk ((((w11.setCell ⟨Q, 8, none⟩ (.int .i64 sb2)).setCell ⟨Q, 9, none⟩ (.slice d2.a d2.n d2.k)).setCell ⟨Q, 7, none⟩ (.slice (some ⟨w11.heap.size, 0, none⟩) 1 1)).alloc (.cells #[.int .i64 cat] 2)) Q (.cells #[.int .i64 (1000 * X.id + X.made + 1), .int .i64 4, .int .i64 id_, .int .i64 sb1, .slice d.a d.n d.k, .string (ByteArray.mk #[]), .slice none 0 0, .slice (some ⟨w11.heap.size, 0, none⟩) 1 1, .int .i64 sb2, .slice d2.a d2.n d2.k] 88)) := hid (by have h := ((((O11.out.setAt (i := 8) (.int .i64 sb2)).setAt (i := 9) (.slice d2.a d2.n d2.k)).setAt (i := 7) (.slice (some ⟨w11.heap.size, 0, none⟩) 1 1)).alloc (.cells #[.int .i64 cat] 2)); simpa using h)
       have V12 : Hid (Below W7.heap.size W7 ((((w11.setCell ⟨Q, 8, none⟩ (.int .i64 sb2)).setCell ⟨Q, 9, none⟩ (.slice d2.a d2.n d2.k)).setCell ⟨Q, 7, none⟩ (.slice (some ⟨w11.heap.size, 0, none⟩) 1 1)).alloc (.cells #[.int .i64 cat] 2))) := hid ((((V11.out.setCell (by dsimp only; exact NP.out) _).setCell (by dsimp only; exact NP.out) _).setCell (by dsimp only; exact NP.out) _).alloc (by simp only [nblk_setCell]; exact V11.out.size) _)
       have KE : KeepsL w11 ((((w11.setCell ⟨Q, 8, none⟩ (.int .i64 sb2)).setCell ⟨Q, 9, none⟩ (.slice d2.a d2.n d2.k)).setCell ⟨Q, 7, none⟩ (.slice (some ⟨w11.heap.size, 0, none⟩) 1 1)).alloc (.cells #[.int .i64 cat] 2)) := keepsL_trans (keepsL_trans (keepsL_trans (keeps_set (i := 8) O11.out (by decide) (.int .i64 sb2)) (keeps_set (i := 9) (O11.out.setAt (i := 8) _) (by decide) (.slice d2.a d2.n d2.k))) (keeps_set (i := 7) ((O11.out.setAt (i := 8) _).setAt (i := 9) _) (by decide) (.slice (some ⟨w11.heap.size, 0, none⟩) 1 1))) (KeepsK.of_below ((Below.refl _ (((w11.setCell ⟨Q, 8, none⟩ (.int .i64 sb2)).setCell ⟨Q, 9, none⟩ (.slice d2.a d2.n d2.k)).setCell ⟨Q, 7, none⟩ (.slice (some ⟨w11.heap.size, 0, none⟩) 1 1))).alloc (Nat.le_refl _) (.cells #[.int .i64 cat] 2))).l
       have ON : Hid (IntL.new B ((((w11.setCell ⟨Q, 8, none⟩ (.int .i64 sb2)).setCell ⟨Q, 9, none⟩ (.slice d2.a d2.n d2.k)).setCell ⟨Q, 7, none⟩ (.slice (some ⟨w11.heap.size, 0, none⟩) 1 1)).alloc (.cells #[.int .i64 cat] 2)) ⟨some ⟨w11.heap.size, 0, none⟩, 1, 1, fun _ => cat⟩) := hid (by
        refine one_new ?_ (Nat.le_trans hB (Nat.le_trans S7.out V11.out.size))
        have h := Blk.new (((w11.setCell ⟨Q, 8, none⟩ (.int .i64 sb2)).setCell ⟨Q, 9, none⟩ (.slice d2.a d2.n d2.k)).setCell ⟨Q, 7, none⟩ (.slice (some ⟨w11.heap.size, 0, none⟩) 1 1)) (.cells #[.int .i64 cat] 2)
        simp only [nblk_setCell] at h
        exact h)
       have D12 := hid (D11.out.keeps KE)
       have E12 := hid (N11.out.keeps KE)
       clear o0 o1 o2 o3 o4 o5 o6 o7 o8 o9 of x0 x1 s0 s1 s2 s3 s4 s5 s6 s7 s8 s9 r0 r1 rf y0 y1 y2 y3 y4 y5 y6 O11 V11 D11 N11 KE nq1 nq2 QL QL1 QL2 PL PL2
       generalize ((((w11.setCell ⟨Q, 8, none⟩ (.int .i64 sb2)).setCell ⟨Q, 9, none⟩ (.slice d2.a d2.n d2.k)).setCell ⟨Q, 7, none⟩ (.slice (some ⟨w11.heap.size, 0, none⟩) 1 1)).alloc (.cells #[.int .i64 cat] 2)) = W12 at *
       generalize w11.heap.size = N1 at *
       have NEW : Hid (ObjV.new B W12 (⟨1000 * X.id + X.made + 1, 4, id_, sb1, d, ⟨#[]⟩, ⟨none, 0, 0, fun _ => ⟨#[]⟩⟩, ⟨some ⟨N1, 0, none⟩, 1, 1, fun _ => cat⟩, sb2, d2⟩)) := hid ⟨D12.out, zeroS_new, ON.out, E12.out⟩
       go_wp2_with fail
       go_meet
       case rel => exact ⟨4, sb2, ⟨some ⟨N1, 0, none⟩, 1, 1, fun _ => cat⟩, d2, V12.out, O12.out, NEW.out, by unfold madeIs; exact ⟨rfl, rfl, SD2.out, by rw [if_pos HC.out]; exact ⟨rfl, rfl⟩⟩⟩
      ·have hc' : decide (0 < cat) = false := decide_eq_false hc
       have HC := hid hc
       clear hc
       obtain ⟨o0, o1, o2, o3, o4, o5, o6, o7, o8, o9⟩ := OP.out.ten
       have of := OP.out.warm
       go_wp2_with fail
       have O10 : Hid (Blk (W9.setCell ⟨Q, 1, none⟩ (.int .i64 4)) Q (.cells #[.int .i64 (1000 * X.id + X.made + 1), .int .i64 4, .int .i64 id_, .int .i64 sb1, .slice d.a d.n d.k, .string (ByteArray.mk #[]), .slice none 0 0, .slice none 0 0, .int .i64 0, .slice none 0 0] 88)) := hid (by have h := OP.out.setAt (i := 1) (.int .i64 4); simpa using h)
       have V10 : Hid (Below W7.heap.size W7 (W9.setCell ⟨Q, 1, none⟩ (.int .i64 4))) := hid (VP.out.setCell (by dsimp only; exact NP.out) _)
       have D10 := hid (DP.out.keeps (keeps_set (i := 1) OP.out (by decide) (.int .i64 4)))
       clear o0 o1 o2 o3 o4 o5 o6 o7 o8 o9 of x0 x1 s0 s1 s2 s3 s4 s5 s6 s7 s8 s9 r0 r1 rf y0 y1 y2 y3 y4 y5 y6 OP VP DP
       generalize (W9.setCell ⟨Q, 1, none⟩ (.int .i64 4)) = W10 at *
       have P2 : Hid (∀ W, Below W7.heap.size W7 W → Calls Tryz.prog 91 #[.agg #[.int .i64 sb2, .slice sc2.a sc2.n sc2.k]] W fun e w' => ∃ d : CatL, e = .returned (.agg #[.int .i64 sb2, .slice d.a d.n d.k]) ∧ sc2.same d ∧ d.new W.heap.size w' ∧ Below W.heap.size W w') := hid (fun W hW => l3CopyLabel_any sb2 sc2 W (SC7.out.2.below hW) hn2)
       refine (P2.out _ V10.out).mono ?_
       rintro e w11 ⟨d2, rfl, sd2, nd2, b11⟩
       have V11 := hid (then_ V10.out b11)
       have O11 := hid (O10.out.below b11)
       have D11 := hid (D10.out.keeps (KeepsK.of_below b11).l)
       have N11 := hid (nd2.low (Nat.le_trans hB (Nat.le_trans S7.out V10.out.size)))
       have SD2 := hid sd2
       clear sd2 nd2 b11 V10 O10 D10
       obtain ⟨x0, x1⟩ := (BX.out _ V11.out).1.two
       obtain ⟨s0, s1, s2, s3, s4, s5, s6, s7, s8, s9⟩ := (BX.out _ V11.out).2.1.ten
       obtain ⟨r0, r1⟩ := (BX.out _ V11.out).2.2.1.two
       have rf := (BX.out _ V11.out).2.2.1.warm
       obtain ⟨y0, y1, y2, y3, y4, y5, y6⟩ := (BX.out _ V11.out).2.2.2.1.seven
       obtain ⟨o0, o1, o2, o3, o4, o5, o6, o7, o8, o9⟩ := O11.out.ten
       have of := O11.out.warm
       have nq1 : ¬ Q = w.heap.size + 1 := by have h1 := (BX.out _ (Below.refl W7.heap.size W7)).2.1.lt; have h2 := NP.out; omega
       have nq2 : ¬ w.heap.size + 1 = Q := fun h => nq1 h.symm
       have QL : Q < w11.heap.size := O11.out.lt
       have QL1 : ¬ w11.heap.size = Q := by omega
       have QL2 : ¬ Q = w11.heap.size := by omega
       have PL : ¬ w11.heap.size = w.heap.size + 1 := by have h1 := (BX.out _ V11.out).2.1.lt; omega
       have PL2 : ¬ w.heap.size + 1 = w11.heap.size := fun h => PL h.symm
       go_wp2_with fail
       have O12 : Hid (Blk ((w11.setCell ⟨Q, 8, none⟩ (.int .i64 sb2)).setCell ⟨Q, 9, none⟩ (.slice d2.a d2.n d2.k)) Q (.cells #[.int .i64 (1000 * X.id + X.made + 1), .int .i64 4, .int .i64 id_, .int .i64 sb1, .slice d.a d.n d.k, .string (ByteArray.mk #[]), .slice none 0 0, .slice none 0 0, .int .i64 sb2, .slice d2.a d2.n d2.k] 88)) := hid (by have h := ((O11.out.setAt (i := 8) (.int .i64 sb2)).setAt (i := 9) (.slice d2.a d2.n d2.k)); simpa using h)
       have V12 : Hid (Below W7.heap.size W7 ((w11.setCell ⟨Q, 8, none⟩ (.int .i64 sb2)).setCell ⟨Q, 9, none⟩ (.slice d2.a d2.n d2.k))) := hid ((V11.out.setCell (by dsimp only; exact NP.out) _).setCell (by dsimp only; exact NP.out) _)
       have KE : KeepsL w11 ((w11.setCell ⟨Q, 8, none⟩ (.int .i64 sb2)).setCell ⟨Q, 9, none⟩ (.slice d2.a d2.n d2.k)) := keepsL_trans (keeps_set (i := 8) O11.out (by decide) (.int .i64 sb2)) (keeps_set (i := 9) (O11.out.setAt (i := 8) _) (by decide) (.slice d2.a d2.n d2.k))
       have D12 := hid (D11.out.keeps KE)
       have E12 := hid (N11.out.keeps KE)
       clear o0 o1 o2 o3 o4 o5 o6 o7 o8 o9 of x0 x1 s0 s1 s2 s3 s4 s5 s6 s7 s8 s9 r0 r1 rf y0 y1 y2 y3 y4 y5 y6 O11 V11 D11 N11 KE nq1 nq2 QL QL1 QL2 PL PL2
       generalize ((w11.setCell ⟨Q, 8, none⟩ (.int .i64 sb2)).setCell ⟨Q, 9, none⟩ (.slice d2.a d2.n d2.k)) = W12 at *
       have NEW : Hid (ObjV.new B W12 (⟨1000 * X.id + X.made + 1, 4, id_, sb1, d, ⟨#[]⟩, ⟨none, 0, 0, fun _ => ⟨#[]⟩⟩, zeroI, sb2, d2⟩)) := hid ⟨D12.out, zeroS_new, zeroI_new, E12.out⟩
       go_wp2_with fail
       go_meet
       case rel => exact ⟨4, sb2, zeroI, d2, V12.out, O12.out, NEW.out, by unfold madeIs; exact ⟨rfl, rfl, SD2.out, by rw [if_neg (show ¬ (0 : Int) < cat from by have := HC.out; omega)]⟩⟩
    case rest =>
    obtain ⟨kk, bb, ow, d2, v12, o12, nw, mi⟩ := hcut
    have V12 := hid v12
    have O12 := hid o12
    have NEW := hid nw
    have MI := hid mi
    clear v12 o12 nw mi VP OP DP x0 x1 s0 s1 s2 s3 s4 s5 s6 s7 s8 s9 r0 r1 rf y0 y1 y2 y3 y4 y5 y6
    have SB : Hid (∀ W, Below wc.heap.size wc W → Blk W w.heap.size (.cells #[.slice (some ⟨g, 0, none⟩) lt.length ca, .slice (some ⟨q, 0, none⟩) lo.length co] 42) ∧ Blk W Q (.cells #[.int .i64 (1000 * X.id + X.made + 1), .int .i64 kk, .int .i64 id_, .int .i64 sb1, .slice d.a d.n d.k, .string (ByteArray.mk #[]), .slice none 0 0, .slice ow.a ow.n ow.k, .int .i64 bb, .slice d2.a d2.n d2.k] 88)) := hid (fun W hW => ⟨(BX.out _ V12.out).1.below hW, O12.out.below hW⟩)
    have RB : Hid (∀ W, Below wc.heap.size wc W → Blk W (w.heap.size + 1 + 1) (.cells #[.slice none 0 0, .slice none 0 0] 42)) := hid (fun W hW => (BX.out _ V12.out).2.2.1.below hW)
    have K12 := hid (BX.out _ V12.out).2.2.2.2
    have NQ : Hid (w.heap.size + 1 + 1 ≠ Q) := hid (by have h1 := (BX.out _ (Below.refl W7.heap.size W7)).2.2.1.lt; have h2 := NP.out; omega)
    obtain ⟨NL, eNL⟩ : ∃ l, l = insL (⟨1000 * X.id + X.made + 1, kk, id_, sb1, d, ⟨#[]⟩, ⟨none, 0, 0, fun _ => ⟨#[]⟩⟩, ow, bb, d2⟩) lo := ⟨_, rfl⟩
    have PADD : Hid (∀ W, Below wc.heap.size wc W → Calls Tryz.prog 94 #[.agg #[.slice (some ⟨g, 0, none⟩) lt.length ca, .slice (some ⟨q, 0, none⟩) lo.length co], .agg #[.int .i64 (1000 * X.id + X.made + 1), .int .i64 kk, .int .i64 id_, .int .i64 sb1, .slice d.a d.n d.k, .string (ByteArray.mk #[]), .slice none 0 0, .slice ow.a ow.n ow.k, .int .i64 bb, .slice d2.a d2.n d2.k]] W fun e w' => ∃ v, e = .returned v ∧ (∃ ob cb, v = .agg #[.slice (some ⟨g, 0, none⟩) lt.length ca, .slice ob NL.length cb] ∧ OwnOb w' W.heap.size (.slice ob NL.length cb) NL ∧ Below W.heap.size W w')) := hid (fun W hW => by
     have h := add_v (K12.out.below hW) (by rw [el1]; exact hl1) hl2 hd (⟨1000 * X.id + X.made + 1, kk, id_, sb1, d, ⟨#[]⟩, ⟨none, 0, 0, fun _ => ⟨#[]⟩⟩, ow, bb, d2⟩)
     rw [el1, ← eNL] at h
     exact h.mono fun _ _ ⟨ob, cb, e1, h1, h2⟩ => ⟨_, e1, ob, cb, rfl, h1, h2⟩)
    have PDEC : Hid (∀ W, Calls Tryz.prog 22 #[.int .i64 (1000 * X.id + X.made + 1)] W fun e w' => ∃ v, e = .returned v ∧ (v = .string ⟨(decL (newCat X).toNat).toArray⟩ ∧ Below W.heap.size W w')) := hid (fun W => by
     have e : (((newCat X).toNat : Nat) : Int) = 1000 * X.id + X.made + 1 := by unfold newCat; omega
     rw [← e]
     exact calls_v (l1Dec_any _ _ (by unfold newCat; omega)))
    have E5 : Hid (∀ args w, (callFunc 94 args).run Tryz.prog w = .ok (.enter 94 args) w) := hid (enters_of Tryz.func94 (by kernel_rfl) rfl)
    have E6 : Hid (∀ args w, (callFunc 22 args).run Tryz.prog w = .ok (.enter 22 args) w) := hid (enters_of Tryz.func22 (by kernel_rfl) rfl)
    have ENL := hid eNL
    clear eNL
    go_wp2_with fail
    refine wp_region_G 9 (fun W => Blk W w.heap.size (.cells #[.slice (some ⟨g, 0, none⟩) lt.length ca, .slice (some ⟨q, 0, none⟩) lo.length co] 42) ∧ Blk W Q (.cells #[.int .i64 (1000 * X.id + X.made + 1), .int .i64 kk, .int .i64 id_, .int .i64 sb1, .slice d.a d.n d.k, .string (ByteArray.mk #[]), .slice none 0 0, .slice ow.a ow.n ow.k, .int .i64 bb, .slice d2.a d2.n d2.k] 88)) (by kernel_rfl) ?_
    refine tq 0 124 (.agg #[.slice (some ⟨g, 0, none⟩) lt.length ca, .slice (some ⟨q, 0, none⟩) lo.length co]) (SB.out _ (below_drew (Below.refl wc.heap.size wc))) ?_ (hy := fun W h => by obtain ⟨z0, z1⟩ := h.1.two; go_simp)
    simp only [ap, List.set]
    refine tq 1 125 (.agg #[.int .i64 (1000 * X.id + X.made + 1), .int .i64 kk, .int .i64 id_, .int .i64 sb1, .slice d.a d.n d.k, .string (ByteArray.mk #[]), .slice none 0 0, .slice ow.a ow.n ow.k, .int .i64 bb, .slice d2.a d2.n d2.k]) (SB.out _ (below_drew (Below.refl wc.heap.size wc))) ?_ (hy := fun W h => by obtain ⟨z0, z1, z2, z3, z4, z5, z6, z7, z8, z9⟩ := h.2.ten; go_simp)
    simp only [ap, List.set]
    refine tq 3 127 (.pointer (some ⟨Q, 0, none⟩)) (SB.out _ (below_drew (Below.refl wc.heap.size wc))) ?_
    simp only [ap, List.set]
    refine tq 4 128 (.int .i64 (1000 * X.id + X.made + 1)) (SB.out _ (below_drew (Below.refl wc.heap.size wc))) ?_ (hy := fun W h => by obtain ⟨z0, z1, z2, z3, z4, z5, z6, z7, z8, z9⟩ := h.2.ten; go_simp)
    simp only [ap, List.set]
    refine wpAnyG_one (i := 2) (by kernel_rfl) rfl ?_
    intro K hK
    refine step_call2g (by rfl) 94 _ _ _ (by rfl) E5.out _ _ (by rfl) (by rfl) (some 126) (by rfl) _ (PADD.out _ (below_drew (Below.refl wc.heap.size wc))) ?_
    rintro v wA ⟨ob, cb, rfl, owA, hb⟩
    have H1 := then_ (below_drew (Below.refl wc.heap.size wc)) hb
    have OWA := hid owA; clear owA; have HbA := hid hb
    refine hK.out _ _ (fun _ => (SB.out _ H1)) ?_
    clear hK K hb
    simp only [ap, List.set]
    refine wpAnyG_one (i := 5) (by kernel_rfl) rfl ?_
    intro K hK
    refine step_call1g (by rfl) 22 _ _ (by rfl) E6.out _ (by rfl) (some 129) (by rfl) _ (PDEC.out _) ?_
    rintro v wD ⟨rfl, hb⟩
    have H2 := then_ H1 hb
    have HbD := hid hb
    refine hK.out _ _ (fun _ => (SB.out _ H2)) ?_
    clear hK K hb
    simp only [ap, List.set]
    have RD := hid (RB.out _ H2)
    obtain ⟨r0, r1⟩ := RD.out.two
    have rf := RD.out.warm
    refine wpAnyG_one (i := 6) (by kernel_rfl) rfl ?_
    intro K hK
    go_simp
    refine hK.out _ _ (fun _ => ⟨((SB.out _ H2).1.other (by omega) _).other (by omega) _, ((SB.out _ H2).2.other NQ.out _).other NQ.out _⟩) ?_
    clear hK K
    try simp only [ap, List.set]
    refine tq 7 7 (.int .i64 0) ⟨((SB.out _ H2).1.other (by omega) _).other (by omega) _, ((SB.out _ H2).2.other NQ.out _).other NQ.out _⟩ ?_
    simp only [ap, List.set]
    refine tq 8 8 (.string ⟨(decL (newCat X).toNat).toArray⟩) ⟨((SB.out _ H2).1.other (by omega) _).other (by omega) _, ((SB.out _ H2).2.other NQ.out _).other NQ.out _⟩ ?_
    simp only [ap, List.set]
    refine wpAnyG_done (by kernel_rfl) ?_ _
    have HH := hid H2
    have HZ := hid H1
    have LD := hid (LB7.out _ (V12.out.trans (H2.mono V12.out.size)))
    clear H1 H2 r0 r1 rf
    go_wp2
    refine bodyPost_ret (self_results _ _ (w.heap.size + 1 + 1) 6 _ _ _ _ Tryz.results77 ((RD.out.setAt (i := 0) _).setAt (i := 1) _) rfl rfl rfl) rfl ⟨LS, NL, ob, cb, 0, _, rfl, ?_, ?_, .inr (.inr ⟨rfl, MB.out, H3.out, rfl, EL.out, d, d2, ow, SD.out, MI.out.2.2.1, MI.out.2.2.2, by rw [ENL.out, MI.out.1, MI.out.2.1]; rfl⟩)⟩
    ·have k1 := K12.out.below HH.out
     have kk : KeepsL wc wD := (KeepsK.of_below HH.out).l
     have ow : OwnOb wD B (.slice ob NL.length cb) NL := (OWA.out.base (by have := HZ.out.size; have := (LB7.out _ V12.out).size; first | omega | exact Nat.le_trans hB (Nat.le_trans (LB7.out _ V12.out).size (Below.size (below_drew (Below.refl wc.heap.size wc))))) ).below HbD.out
     have k2 : KSt wD B (.slice (some ⟨g, 0, none⟩) LS.length ca) (.slice ob NL.length cb) LS NL := ⟨k1.t, ow, k1.tn, fun x hx => by
      rw [ENL.out] at hx
      rcases insL_mem hx with rfl | hx
      ·exact NEW.out.keeps kk
      ·exact k1.on x hx, k1.tc, fun x hx => by
      rw [ENL.out] at hx
      rcases insL_mem hx with rfl | hx
      ·exact ⟨Nat.le_refl _, Nat.zero_le _⟩
      ·exact k1.oc x hx⟩
     rw [el1] at k2
     exact (k2.set RD.out (.inl rfl) _).set (RD.out.setAt (i := 0) _) (.inl rfl) _
    ·exact (LD.out.setCell (by dsimp only; omega) _).setCell (by dsimp only; omega) _
  ·have k3' : (o.kind == 3) = false := by simpa using k3
   have k3'' : decide (o.kind = 3) = false := decide_eq_false k3
   have k4 : (o.kind != 3) = true := by simp [k3]
   rw [k3'', Bool.false_and] at MB
   clear k3
   simp only [Bool.false_and] at MB
   go_wp2_with fail
   refine wp_region_G 42 (fun W => Below V.heap.size V W) (by kernel_rfl) ?_
   refine tq 0 21 (.int .i64 u) D0.out ?_
   simp only [ap, List.set]
   refine tq 1 22 (.bool false) D0.out ?_
   simp only [ap, List.set]
   refine tq 2 23 (.bool false) D0.out ?_
   simp only [ap, List.set]
   refine tq 3 24 (.pointer (some ⟨w.heap.size, 1, none⟩)) D0.out ?_
   simp only [ap, List.set]
   refine tq 4 25 (.slice (some ⟨q, 0, none⟩) lo.length co) D0.out ?_ (hy := fun W h => by obtain ⟨z0, z1⟩ := (BX.out W h).1.two; go_simp)
   simp only [ap, List.set]
   refine tq 5 26 (.int .i64 u) D0.out ?_
   simp only [ap, List.set]
   refine tq 6 27 (.pointer (some ⟨q, u * 10, none⟩)) D0.out ?_
   simp only [ap, List.set]
   refine tq 7 28 (.pointer (some ⟨q, u * 10 + 1, none⟩)) D0.out ?_
   simp only [ap, List.set]
   refine tq 8 29 (.int .i64 o.kind) D0.out ?_ (hy := fun W h => by obtain ⟨z0, z1, z2, z3, z4, z5, z6, z7, z8, z9⟩ := OC.out W h; go_simp)
   simp only [ap, List.set]
   refine tq 9 30 (.bool true) D0.out ?_
   simp only [ap, List.set]
   refine tq 10 31 (.bool true) D0.out ?_
   simp only [ap, List.set]
   refine tq 11 32 (.bool true) D0.out ?_
   simp only [ap, List.set]
   refine sks 9 [(12, 33), (13, 34), (14, 35), (15, 36), (16, 37), (17, 38), (18, 39), (19, 40), (20, 41)] rfl (by kernel_rfl) D0.out ?_
   simp only [putsU, ap, List.set]
   refine tq 21 42 (.bool true) D0.out ?_
   simp only [ap, List.set]
   refine tq 22 43 (.bool true) D0.out ?_
   simp only [ap, List.set]
   refine sks 8 [(23, 44), (24, 45), (25, 46), (26, 47), (27, 48), (28, 49), (29, 50), (30, 51)] rfl (by kernel_rfl) D0.out ?_
   simp only [putsU, ap, List.set]
   refine tq 31 52 (.bool true) D0.out ?_
   simp only [ap, List.set]
   refine tq 32 53 (.bool true) D0.out ?_
   simp only [ap, List.set]
   refine sks 8 [(33, 54), (34, 55), (35, 56), (36, 57), (37, 58), (38, 59), (39, 60), (40, 61)] rfl (by kernel_rfl) D0.out ?_
   simp only [putsU, ap, List.set]
   refine tq 41 62 (.bool true) D0.out ?_
   simp only [ap, List.set]
   refine wpAnyG_done (by kernel_rfl) ?_ _
   have VL := hid (D0.out)
   clear D0
   generalize w1.drew = wd at *
   obtain ⟨x0, x1⟩ := (BX.out _ VL.out).1.two
   obtain ⟨s0, s1, s2, s3, s4, s5, s6, s7, s8, s9⟩ := (BX.out _ VL.out).2.1.ten
   obtain ⟨r0, r1⟩ := (BX.out _ VL.out).2.2.1.two
   have rf := (BX.out _ VL.out).2.2.1.warm
   obtain ⟨y0, y1, y2, y3, y4, y5, y6⟩ := (BX.out _ VL.out).2.2.2.1.seven
   go_wp2
   have RB := hid (BX.out _ VL.out).2.2.1
   have KB := hid (BX.out _ VL.out).2.2.2.2
   refine bodyPost_ret (self_results _ _ (w.heap.size + 1 + 1) 6 _ _ _ _ Tryz.results77 ((RB.out.setAt (i := 0) _).setAt (i := 1) _) rfl rfl rfl) rfl ⟨lt, lo, some ⟨q, 0, none⟩, co, 4, _, rfl, ?_, ?_, .inl ⟨rfl, MB.out, rfl, rfl, rfl⟩⟩
   ·exact (KB.out.set RB.out (.inl rfl) _).set (RB.out.setAt (i := 0) _) (.inl rfl) _
   ·exact ((LB.out _ VL.out).setCell (by dsimp only; omega) _).setCell (by dsimp only; omega) _
end Go.Proofs.YthbmfbnnemgbpaaGreatDoor
