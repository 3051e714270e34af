/- Steps as they lie in memory; a thread or an object of a kernel that a call made, changed in place. -/
import Derived.Test.YtkoinmddcnnipaaNC3
import Derived.Test.YtkoinmddcnnipaaZ2
import Derived.Test.YtkoinmddcnnipaaZ14
namespace Go.Proofs.Ytkoinmddcnnipaa
open Go Go.RowKit Go.Deep Go.Maps
structure StepV where
  th : Int
  kind : Int
  id : Int
  «to» : Int
  cat : Int
  data : ByteArray
  b1 : Int
  c1 : CatL
  b2 : Int
  c2 : CatL
def StepV.cells (s : StepV) : Array Value := #[.int .i64 s.th, .int .i64 s.kind, .int .i64 s.id, .int .i64 s.to, .int .i64 s.cat, .string s.data, .int .i64 s.b1, .slice s.c1.a s.c1.n s.c1.k, .int .i64 s.b2, .slice s.c2.a s.c2.n s.c2.k]
def StepV.at (w : World) (s : StepV) : Prop := s.c1.at w ∧ s.c2.at w ∧ s.data.size ≤ maxLen
theorem StepV.at.below {w w' : World} {s : StepV} (h : s.at w) (hb : Below w.heap.size w w') : s.at w' := ⟨h.1.below hb, h.2.1.below hb, h.2.2⟩

theorem flat_set {α : Type} {f : α → List Value} {c : Nat} (hl : ∀ x, (f x).length = c) : ∀ {l : List α} {t i : Nat} {x : α} {u : Value} (ht : t < l.length), i < c → f x = (f l[t]).set i u → ((l.map f).flatten).set (t * c + i) u = ((l.set t x).map f).flatten
  | [], t, _, _, _, ht, _, _ => absurd ht (Nat.not_lt_zero t)
  | y :: r, 0, i, x, u, _, hi, h => by
    show (f y ++ (r.map f).flatten).set (0 * c + i) u = f x ++ (r.map f).flatten
    rw [Nat.zero_mul, Nat.zero_add, List.set_append_left _ _ (by rw [hl]; exact hi)]
    have h' : f x = (f y).set i u := h
    rw [h']
  | y :: r, t + 1, i, x, u, ht, hi, h => by
    show (f y ++ (r.map f).flatten).set ((t + 1) * c + i) u = f y ++ ((r.set t x).map f).flatten
    have e : (t + 1) * c + i = (f y).length + (t * c + i) := by rw [hl, Nat.succ_mul]; omega
    rw [e, List.set_append_right _ _ (by omega), Nat.add_sub_cancel_left]
    rw [flat_set hl (l := r) (t := t) (x := x) (by simpa using ht) hi h]
theorem ThrV.cs_len (x : ThrV) : x.cs.length = 7 := rfl
theorem ObjV.cs_len (x : ObjV) : x.cs.length = 10 := rfl
theorem mem_set {α : Type} {l : List α} {t : Nat} {x y : α} (h : y ∈ l.set t x) : y = x ∨ y ∈ l := by
  rcases List.mem_or_eq_of_mem_set h with h | h
  · exact .inr h
  · exact .inl h
theorem KSt.setT {w : World} {B g ca : Nat} {vo : Value} {lt : List ThrV} {lo : List ObjV} (h : KSt w B (.slice (some ⟨g, 0, none⟩) lt.length ca) vo lt lo) {t i : Nat} {x : ThrV} {u : Value} (ht : t < lt.length) (hi : i < 7) (hcs : x.cs = (lt[t]).cs.set i u) (hx : x.new B w) (hc : x.own.n ≤ x.own.k ∧ x.own.k ≤ maxLen) :
    KSt (w.setCell ⟨g, t * 7 + i, none⟩ u) B (.slice (some ⟨g, 0, none⟩) (lt.set t x).length ca) vo (lt.set t x) lo ∧ (∃ cur, Blk w g (.cells cur 62)) ∧ B ≤ g := by
  have hg : ∃ cur, Blk w g (.cells cur 62) := by
    rcases h.t.2 with ⟨hv, _⟩ | ⟨g', cap, cur, hv, _, hgg, _⟩
    · cases hv
    · cases hv; exact ⟨cur, hgg⟩
  have hBg : B ≤ g := (World.ownsRow.lt h.t g rfl).1
  obtain ⟨cur, hcur⟩ := hg
  have kl := keeps_set (i := t * 7 + i) hcur (by decide) u
  have el : (lt.set t x).length = lt.length := by simp
  have ho := (World.ownsRow.stored h.t (t * 7 + i) u).1
  refine ⟨⟨?_, h.o.set hcur (by decide) u, fun y hy => ?_, fun y hy => (h.on y hy).keeps kl, fun y hy => ?_, h.oc⟩, ⟨cur, hcur⟩, hBg⟩
  · unfold OwnT
    rw [el]
    have e := flat_set (f := ThrV.cs) ThrV.cs_len (l := lt) (t := t) (x := x) (u := u) ht hi hcs
    unfold cells7
    rw [← e]
    exact ho
  · rcases mem_set hy with rfl | hy
    · exact hx.keeps kl
    · exact (h.tn y hy).keeps kl
  · rcases mem_set hy with rfl | hy
    · exact hc
    · exact h.tc y hy
theorem KSt.setO {w : World} {B g co : Nat} {vt : Value} {lt : List ThrV} {lo : List ObjV} (h : KSt w B vt (.slice (some ⟨g, 0, none⟩) lo.length co) lt lo) {t i : Nat} {x : ObjV} {u : Value} (ht : t < lo.length) (hi : i < 10) (hcs : x.cs = (lo[t]).cs.set i u) (hx : x.new B w) (hc : x.items.n ≤ x.items.k ∧ x.items.k ≤ maxLen) :
    KSt (w.setCell ⟨g, t * 10 + i, none⟩ u) B vt (.slice (some ⟨g, 0, none⟩) (lo.set t x).length co) lt (lo.set t x) ∧ (∃ cur, Blk w g (.cells cur 38)) ∧ B ≤ g := by
  have hg : ∃ cur, Blk w g (.cells cur 38) := by
    rcases h.o.2 with ⟨hv, _⟩ | ⟨g', cap, cur, hv, _, hgg, _⟩
    · cases hv
    · cases hv; exact ⟨cur, hgg⟩
  have hBg : B ≤ g := (World.ownsRow.lt h.o g rfl).1
  obtain ⟨cur, hcur⟩ := hg
  have kl := keeps_set (i := t * 10 + i) hcur (by decide) u
  have el : (lo.set t x).length = lo.length := by simp
  have ho := (World.ownsRow.stored h.o (t * 10 + i) u).1
  refine ⟨⟨h.t.set hcur (by decide) u, ?_, fun y hy => (h.tn y hy).keeps kl, fun y hy => ?_, h.tc, fun y hy => ?_⟩, ⟨cur, hcur⟩, hBg⟩
  · unfold OwnOb
    rw [el]
    have e := flat_set (f := ObjV.cs) ObjV.cs_len (l := lo) (t := t) (x := x) (u := u) ht hi hcs
    unfold cells10
    rw [← e]
    exact ho
  · rcases mem_set hy with rfl | hy
    · exact hx.keeps kl
    · exact (h.on y hy).keeps kl
  · rcases mem_set hy with rfl | hy
    · exact hc
    · exact h.oc y hy
end Go.Proofs.Ytkoinmddcnnipaa
namespace Go.Proofs.Ytkoinmddcnnipaa
open Go Go.RowKit Go.Deep Go.Maps

set_option maxRecDepth 100000 in
set_option maxHeartbeats 1000000 in
theorem l2Sees_any (id made b1 : Int) (a1 : Option Addr) (n1 k1 : Nat) (f1 g1 : Nat → Int) (b2 : Int) (a2 : Option Addr) (n2 k2 : Nat) (f2 g2 : Nat → Int) (a3 : Option Addr) (n3 k3 : Nat) (h : Nat → Int) (bl : Int) (al : Option Addr) (nl kl : Nat) (fl gl : Nat → Int) (w : World) (_hn1 : n1 ≤ maxLen) (_hn2 : n2 ≤ maxLen) (hn3 : n3 ≤ maxLen) (hc1 : CatsAt w a1 n1 f1 g1) (_hc2 : CatsAt w a2 n2 f2 g2) (hc3 : IntsAt w a3 n3 h) (_hnl : nl ≤ maxLen) (hcl : CatsAt w al nl fl gl) (hm1 : n1 ≤ 1048576) (hml : nl ≤ 1048576) (hr1 : ∀ j, j < n1 → ∀ i, i < j → f1 i < f1 j) (hrl : ∀ j, j < nl → ∀ i, i < j → fl i < fl j) :
    Calls Try.prog 100 #[.agg #[.int .i64 id, .int .i64 b1, .slice a1 n1 k1, .int .i64 b2, .slice a2 n2 k2, .slice a3 n3 k3, .int .i64 made], .agg #[.int .i64 bl, .slice al nl kl]] w fun e w' => e = .returned (.bool (flowsB bl nl fl gl n3 h b1 n1 f1 g1)) ∧ Below w.heap.size w w' := by
  have hb0 := ((Below.refl _ w).alloc (Nat.le_refl _) (.cells #[.int .i64 id, .int .i64 b1, .slice a1 n1 k1, .int .i64 b2, .slice a2 n2 k2, .slice a3 n3 k3, .int .i64 made] 62)).alloc (by simp) (.cells #[.int .i64 bl, .slice al nl kl] 35)
  have yT : Blk ((w.alloc (.cells #[.int .i64 id, .int .i64 b1, .slice a1 n1 k1, .int .i64 b2, .slice a2 n2 k2, .slice a3 n3 k3, .int .i64 made] 62)).alloc (.cells #[.int .i64 bl, .slice al nl kl] 35)) w.heap.size (.cells #[.int .i64 id, .int .i64 b1, .slice a1 n1 k1, .int .i64 b2, .slice a2 n2 k2, .slice a3 n3 k3, .int .i64 made] 62) := (Blk.new w _).alloc _
  have yL : Blk ((w.alloc (.cells #[.int .i64 id, .int .i64 b1, .slice a1 n1 k1, .int .i64 b2, .slice a2 n2 k2, .slice a3 n3 k3, .int .i64 made] 62)).alloc (.cells #[.int .i64 bl, .slice al nl kl] 35)) (w.heap.size + 1) (.cells #[.int .i64 bl, .slice al nl kl] 35) := by have := Blk.new (w.alloc (.cells #[.int .i64 id, .int .i64 b1, .slice a1 n1 k1, .int .i64 b2, .slice a2 n2 k2, .slice a3 n3 k3, .int .i64 made] 62)) (.cells #[.int .i64 bl, .slice al nl kl] 35); simpa using this
  go_enter Try.func100, Try.ntmps100
  go_wp2_with fail
  refine (l1Flows_any _ _ _ _ fl gl _ _ _ h _ _ _ _ f1 g1 _ hml hm1 hn3 (hcl.below hb0) (hc1.below hb0) (hc3.below hb0) hrl hr1).mono ?_
  rintro e w1 ⟨rfl, hb1⟩
  have B1 : Below w.heap.size w w1 := hb0.trans (hb1.mono (by simp; omega))
  clear yT yL hb0 hb1
  go_wp2
  go_ret
  exact ⟨rfl, B1⟩

set_option maxRecDepth 100000 in
set_option maxHeartbeats 1000000 in
theorem l2Changes_any (id made b1 : Int) (a1 : Option Addr) (n1 k1 : Nat) (f1 g1 : Nat → Int) (b2 : Int) (a2 : Option Addr) (n2 k2 : Nat) (f2 g2 : Nat → Int) (a3 : Option Addr) (n3 k3 : Nat) (h : Nat → Int) (bl : Int) (al : Option Addr) (nl kl : Nat) (fl gl : Nat → Int) (w : World) (hn1 : n1 ≤ maxLen) (hn2 : n2 ≤ maxLen) (hn3 : n3 ≤ maxLen) (hc1 : CatsAt w a1 n1 f1 g1) (hc2 : CatsAt w a2 n2 f2 g2) (hc3 : IntsAt w a3 n3 h) (hnl : nl ≤ maxLen) (hcl : CatsAt w al nl fl gl) (hm1 : n1 ≤ 1048576) (hml : nl ≤ 1048576) (hr1 : ∀ j, j < n1 → ∀ i, i < j → f1 i < f1 j) (hrl : ∀ j, j < nl → ∀ i, i < j → fl i < fl j) :
    Calls Try.prog 97 #[.agg #[.int .i64 id, .int .i64 b1, .slice a1 n1 k1, .int .i64 b2, .slice a2 n2 k2, .slice a3 n3 k3, .int .i64 made], .agg #[.int .i64 bl, .slice al nl kl]] w fun e w' => e = .returned (.bool (flowsB bl nl fl gl n3 h b1 n1 f1 g1 && flowsB b1 n1 f1 g1 n3 h bl nl fl gl)) ∧ Below w.heap.size w w' := by
  have hb0 := ((Below.refl _ w).alloc (Nat.le_refl _) (.cells #[.int .i64 id, .int .i64 b1, .slice a1 n1 k1, .int .i64 b2, .slice a2 n2 k2, .slice a3 n3 k3, .int .i64 made] 62)).alloc (by simp) (.cells #[.int .i64 bl, .slice al nl kl] 35)
  have yT : Blk ((w.alloc (.cells #[.int .i64 id, .int .i64 b1, .slice a1 n1 k1, .int .i64 b2, .slice a2 n2 k2, .slice a3 n3 k3, .int .i64 made] 62)).alloc (.cells #[.int .i64 bl, .slice al nl kl] 35)) w.heap.size (.cells #[.int .i64 id, .int .i64 b1, .slice a1 n1 k1, .int .i64 b2, .slice a2 n2 k2, .slice a3 n3 k3, .int .i64 made] 62) := (Blk.new w _).alloc _
  have yL : Blk ((w.alloc (.cells #[.int .i64 id, .int .i64 b1, .slice a1 n1 k1, .int .i64 b2, .slice a2 n2 k2, .slice a3 n3 k3, .int .i64 made] 62)).alloc (.cells #[.int .i64 bl, .slice al nl kl] 35)) (w.heap.size + 1) (.cells #[.int .i64 bl, .slice al nl kl] 35) := by have := Blk.new (w.alloc (.cells #[.int .i64 id, .int .i64 b1, .slice a1 n1 k1, .int .i64 b2, .slice a2 n2 k2, .slice a3 n3 k3, .int .i64 made] 62)) (.cells #[.int .i64 bl, .slice al nl kl] 35); simpa using this
  go_enter Try.func97, Try.ntmps97
  go_wp2_with fail
  refine (l2Sees_any _ _ _ _ _ _ f1 g1 _ _ _ _ f2 g2 _ _ _ h _ _ _ _ fl gl _ hn1 hn2 hn3 (hc1.below hb0) (hc2.below hb0) (hc3.below hb0) hnl (hcl.below hb0) hm1 hml hr1 hrl).mono ?_
  rintro e w1 ⟨rfl, hb1⟩
  have B1 : Below w.heap.size w w1 := hb0.trans (hb1.mono (by simp; omega))
  have xT := yT.below hb1
  have xL := yL.below hb1
  obtain ⟨x0, x1, x2, x3, x4, x5, x6⟩ := xT.seven
  obtain ⟨x7, x8⟩ := xL.two
  clear yT yL hb0 hb1
  by_cases t1 : flowsB bl nl fl gl n3 h b1 n1 f1 g1 = true
  · go_wp2_with fail
    refine (l1Flows_any _ _ _ _ f1 g1 _ _ _ h _ _ _ _ fl gl _ hm1 hml hn3 (hc1.below B1) (hcl.below B1) (hc3.below B1) hr1 hrl).mono ?_
    rintro e w2 ⟨rfl, hb2⟩
    have B2 : Below w.heap.size w w2 := B1.trans (hb2.mono B1.size)
    clear x0 x1 x2 x3 x4 x5 x6 x7 x8 xT xL
    go_wp2
    go_ret
    exact ⟨ret_bool (by rw [t1]; rfl), B2⟩
  · have t1' : flowsB bl nl fl gl n3 h b1 n1 f1 g1 = false := by simpa using t1
    clear t1
    go_wp2
    go_ret
    exact ⟨ret_bool (by rw [t1']; rfl), B1⟩
end Go.Proofs.Ytkoinmddcnnipaa
