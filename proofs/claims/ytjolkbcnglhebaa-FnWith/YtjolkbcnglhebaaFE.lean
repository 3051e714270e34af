/- Sees, Changes, Reaches of the program, and Flows, Sees, Changes, Reaches of the model, answer plain functions. -/
import Derived.Test.YtjolkbcnglhebaaFD
import Derived.Test.YtjolkbcnglhebaaM
import Derived.Test.YtjolkbcnglhebaaY
namespace Go.Proofs.Ytjolkbcnglhebaa
open Go.RowKit Go.Deep Go.Maps

theorem Blk.seven {W : World} {P t : Nat} {x0 x1 x2 x3 x4 x5 x6 : Value} (h : Blk W P (.cells #[x0, x1, x2, x3, x4, x5, x6] t)) : W.cell? ⟨P, 0, none⟩ = some x0 ∧ W.cell? ⟨P, 1, none⟩ = some x1 ∧ W.cell? ⟨P, 2, none⟩ = some x2 ∧ W.cell? ⟨P, 3, none⟩ = some x3 ∧ W.cell? ⟨P, 4, none⟩ = some x4 ∧ W.cell? ⟨P, 5, none⟩ = some x5 ∧ W.cell? ⟨P, 6, none⟩ = some x6 := by
  unfold Blk at h
  simp [World.cell?, h]

def seesB (id made b1 : Int) (n1 : Nat) (f1 g1 : Nat → Int) (b2 : Int) (n2 : Nat) (f2 g2 : Nat → Int) (n3 : Nat) (h : Nat → Int) (bl : Int) (nl : Nat) (fl gl : Nat → Int) : Bool :=
  thrOk id made b1 n1 f1 g1 b2 n2 f2 g2 n3 h && (labOk bl nl fl gl && flowsB bl nl fl gl n3 h b1 n1 f1 g1)
def reachB (id made b1 : Int) (n1 : Nat) (f1 g1 : Nat → Int) (b2 : Int) (n2 : Nat) (f2 g2 : Nat → Int) (n3 : Nat) (h : Nat → Int) (bl : Int) (nl : Nat) (fl gl : Nat → Int) : Bool :=
  thrOk id made b1 n1 f1 g1 b2 n2 f2 g2 n3 h && (labOk bl nl fl gl && flowsB b1 n1 f1 g1 n3 h bl nl fl gl)
def changesB (id made b1 : Int) (n1 : Nat) (f1 g1 : Nat → Int) (b2 : Int) (n2 : Nat) (f2 g2 : Nat → Int) (n3 : Nat) (h : Nat → Int) (bl : Int) (nl : Nat) (fl gl : Nat → Int) : Bool :=
  seesB id made b1 n1 f1 g1 b2 n2 f2 g2 n3 h bl nl fl gl && reachB id made b1 n1 f1 g1 b2 n2 f2 g2 n3 h bl nl fl gl

theorem thrOk_out {id made b1 : Int} {n1 : Nat} {f1 g1 : Nat → Int} {b2 : Int} {n2 : Nat} {f2 g2 : Nat → Int} {n3 : Nat} {h : Nat → Int} (t : thrOk id made b1 n1 f1 g1 b2 n2 f2 g2 n3 h = true) : labOk b1 n1 f1 g1 = true ∧ labOk b2 n2 f2 g2 = true ∧ ownOk n3 h = true := by
  simp only [thrOk, Bool.and_eq_true] at t
  exact ⟨t.1.1.1.2, t.1.1.2, t.1.2⟩

set_option maxRecDepth 100000 in
set_option maxHeartbeats 1000000 in
theorem specFlows_any (ba : Int) (aa : Option Addr) (na ka : Nat) (fa ga : Nat → Int) (ao : Option Addr) (no ko : Nat) (ho : Nat → Int) (bb : Int) (ab : Option Addr) (nb kb : Nat) (fb gb : Nat → Int) (w : World)
    (hna : na ≤ maxLen) (hnb : nb ≤ maxLen) (hno : no ≤ maxLen) (hca : CatsAt w aa na fa ga) (hcb : CatsAt w ab nb fb gb) (hco : IntsAt w ao no ho) :
    Calls Try.prog 19 #[.agg #[.int .i64 ba, .slice aa na ka], .slice ao no ko, .agg #[.int .i64 bb, .slice ab nb kb]] w fun e w' => e = .returned (.bool (flowAll ba na fa ga no ho bb nb fb gb)) ∧ Below w.heap.size w w' := by
  have hb0 := ((Below.refl _ w).alloc (Nat.le_refl _) (.cells #[.int .i64 ba, .slice aa na ka] 26)).alloc (by simp) (.cells #[.int .i64 bb, .slice ab nb kb] 26)
  have yA : Blk ((w.alloc (.cells #[.int .i64 ba, .slice aa na ka] 26)).alloc (.cells #[.int .i64 bb, .slice ab nb kb] 26)) w.heap.size (.cells #[.int .i64 ba, .slice aa na ka] 26) := (Blk.new w _).alloc _
  have yB : Blk ((w.alloc (.cells #[.int .i64 ba, .slice aa na ka] 26)).alloc (.cells #[.int .i64 bb, .slice ab nb kb] 26)) (w.heap.size + 1) (.cells #[.int .i64 bb, .slice ab nb kb] 26) := by have := Blk.new (w.alloc (.cells #[.int .i64 ba, .slice aa na ka] 26)) (.cells #[.int .i64 bb, .slice ab nb kb] 26); simpa using this
  go_enter Try.func19, Try.ntmps19
  go_wp2_with fail
  refine (specOk_any _ _ _ _ fa ga _ hna (hca.below hb0)).mono ?_
  rintro e w1 ⟨rfl, hb1⟩
  have B1 : Below w.heap.size w w1 := hb0.trans (hb1.mono (by simp; omega))
  have xA := yA.below hb1
  have xB := yB.below hb1
  obtain ⟨x1, x2⟩ := xA.two
  obtain ⟨x3, x4⟩ := xB.two
  clear yA yB hb0 hb1
  by_cases t1 : labOk ba na fa ga = true
  · go_wp2_with fail
    refine (specOk_any _ _ _ _ fb gb _ hnb (hcb.below B1)).mono ?_
    rintro e w2 ⟨rfl, hb2⟩
    have B2 : Below w.heap.size w w2 := B1.trans (hb2.mono B1.size)
    clear x1 x2 x3 x4
    have yA := xA.below hb2
    have yB := xB.below hb2
    obtain ⟨x1, x2⟩ := yA.two
    obtain ⟨x3, x4⟩ := yB.two
    clear xA xB hb2
    by_cases t2 : labOk bb nb fb gb = true
    · go_wp2_with fail
      refine (l2Owns_any _ _ _ ho _ hno (hco.below B2)).mono ?_
      rintro e w3 ⟨rfl, hb3⟩
      have B3 : Below w.heap.size w w3 := B2.trans (hb3.mono B2.size)
      clear x1 x2 x3 x4
      have xA := yA.below hb3
      have xB := yB.below hb3
      obtain ⟨x1, x2⟩ := xA.two
      obtain ⟨x3, x4⟩ := xB.two
      clear yA yB hb3
      by_cases t3 : ownOk no ho = true
      · go_wp2_with fail
        refine (l1Flows_any _ _ _ _ fa ga _ _ _ ho _ _ _ _ fb gb _ (by have := (labOk_out t1).2.1; omega) (by have := (labOk_out t2).2.1; omega) hno (hca.below B3) (hcb.below B3) (hco.below B3) (rising (labOk_out t1).2.2) (rising (labOk_out t2).2.2)).mono ?_
        rintro e w4 ⟨rfl, hb4⟩
        have B4 : Below w.heap.size w w4 := B3.trans (hb4.mono B3.size)
        clear x1 x2 x3 x4 xA xB hb4
        go_wp2
        go_ret
        exact ⟨ret_bool (by simp [flowAll, t1, t2, t3]), B4⟩
      · have t3' : ownOk no ho = false := by simpa using t3
        clear t3
        go_wp2
        go_ret
        exact ⟨ret_bool (by simp [flowAll, t3']), B3⟩
    · have t2' : labOk bb nb fb gb = false := by simpa using t2
      clear t2
      go_wp2
      go_ret
      exact ⟨ret_bool (by simp [flowAll, t2']), B2⟩
  · have t1' : labOk ba na fa ga = false := by simpa using t1
    clear t1
    go_wp2
    go_ret
    exact ⟨ret_bool (by simp [flowAll, t1']), B1⟩

set_option maxRecDepth 100000 in
set_option maxHeartbeats 1000000 in
theorem implSees_any (id made b1 : Int) (a1 : Option Addr) (n1 k1 : Nat) (f1 g1 : Nat → Int) (b2 : Int) (a2 : Option Addr) (n2 k2 : Nat) (f2 g2 : Nat → Int) (a3 : Option Addr) (n3 k3 : Nat) (h : Nat → Int) (bl : Int) (al : Option Addr) (nl kl : Nat) (fl gl : Nat → Int) (w : World) (hn1 : n1 ≤ maxLen) (hn2 : n2 ≤ maxLen) (hn3 : n3 ≤ maxLen) (hc1 : CatsAt w a1 n1 f1 g1) (hc2 : CatsAt w a2 n2 f2 g2) (hc3 : IntsAt w a3 n3 h) (hnl : nl ≤ maxLen) (hcl : CatsAt w al nl fl gl) :
    Calls Try.prog 22 #[.agg #[.int .i64 id, .int .i64 b1, .slice a1 n1 k1, .int .i64 b2, .slice a2 n2 k2, .slice a3 n3 k3, .int .i64 made], .agg #[.int .i64 bl, .slice al nl kl]] w fun e w' => e = .returned (.bool (seesB id made b1 n1 f1 g1 b2 n2 f2 g2 n3 h bl nl fl gl)) ∧ Below w.heap.size w w' := by
  have hb0 := ((Below.refl _ w).alloc (Nat.le_refl _) (.cells #[.int .i64 id, .int .i64 b1, .slice a1 n1 k1, .int .i64 b2, .slice a2 n2 k2, .slice a3 n3 k3, .int .i64 made] 39)).alloc (by simp) (.cells #[.int .i64 bl, .slice al nl kl] 26)
  have yT : Blk ((w.alloc (.cells #[.int .i64 id, .int .i64 b1, .slice a1 n1 k1, .int .i64 b2, .slice a2 n2 k2, .slice a3 n3 k3, .int .i64 made] 39)).alloc (.cells #[.int .i64 bl, .slice al nl kl] 26)) w.heap.size (.cells #[.int .i64 id, .int .i64 b1, .slice a1 n1 k1, .int .i64 b2, .slice a2 n2 k2, .slice a3 n3 k3, .int .i64 made] 39) := (Blk.new w _).alloc _
  have yL : Blk ((w.alloc (.cells #[.int .i64 id, .int .i64 b1, .slice a1 n1 k1, .int .i64 b2, .slice a2 n2 k2, .slice a3 n3 k3, .int .i64 made] 39)).alloc (.cells #[.int .i64 bl, .slice al nl kl] 26)) (w.heap.size + 1) (.cells #[.int .i64 bl, .slice al nl kl] 26) := by have := Blk.new (w.alloc (.cells #[.int .i64 id, .int .i64 b1, .slice a1 n1 k1, .int .i64 b2, .slice a2 n2 k2, .slice a3 n3 k3, .int .i64 made] 39)) (.cells #[.int .i64 bl, .slice al nl kl] 26); simpa using this
  go_enter Try.func22, Try.ntmps22
  go_wp2_with fail
  refine (implThr_any _ _ _ _ _ _ f1 g1 _ _ _ _ f2 g2 _ _ _ h _ hn1 hn2 hn3 (hc1.below hb0) (hc2.below hb0) (hc3.below hb0)).mono ?_
  rintro e w1 ⟨rfl, hb1⟩
  have B1 : Below w.heap.size w w1 := hb0.trans (hb1.mono (by simp; omega))
  have xT := yT.below hb1
  have xL := yL.below hb1
  obtain ⟨x0, x1, x2, x3, x4, x5, x6⟩ := xT.seven
  obtain ⟨x7, x8⟩ := xL.two
  clear yT yL hb0 hb1
  by_cases t1 : thrOk id made b1 n1 f1 g1 b2 n2 f2 g2 n3 h = true
  · go_wp2_with fail
    refine (implFlows_any _ _ _ _ fl gl _ _ _ h _ _ _ _ f1 g1 _ hnl hn1 hn3 (hcl.below B1) (hc1.below B1) (hc3.below B1)).mono ?_
    rintro e w2 ⟨rfl, hb2⟩
    have B2 : Below w.heap.size w w2 := B1.trans (hb2.mono B1.size)
    clear x0 x1 x2 x3 x4 x5 x6 x7 x8 xT xL
    go_wp2
    go_ret
    obtain ⟨p1, _, p3⟩ := thrOk_out t1
    exact ⟨ret_bool (by simp [flowAll, seesB, t1, p1, p3]), B2⟩
  · have t1' : thrOk id made b1 n1 f1 g1 b2 n2 f2 g2 n3 h = false := by simpa using t1
    clear t1
    go_wp2
    go_ret
    exact ⟨ret_bool (by simp [seesB, t1']), B1⟩

set_option maxRecDepth 100000 in
set_option maxHeartbeats 1000000 in
theorem implReaches_any (id made b1 : Int) (a1 : Option Addr) (n1 k1 : Nat) (f1 g1 : Nat → Int) (b2 : Int) (a2 : Option Addr) (n2 k2 : Nat) (f2 g2 : Nat → Int) (a3 : Option Addr) (n3 k3 : Nat) (h : Nat → Int) (bl : Int) (al : Option Addr) (nl kl : Nat) (fl gl : Nat → Int) (w : World) (hn1 : n1 ≤ maxLen) (hn2 : n2 ≤ maxLen) (hn3 : n3 ≤ maxLen) (hc1 : CatsAt w a1 n1 f1 g1) (hc2 : CatsAt w a2 n2 f2 g2) (hc3 : IntsAt w a3 n3 h) (hnl : nl ≤ maxLen) (hcl : CatsAt w al nl fl gl) :
    Calls Try.prog 24 #[.agg #[.int .i64 id, .int .i64 b1, .slice a1 n1 k1, .int .i64 b2, .slice a2 n2 k2, .slice a3 n3 k3, .int .i64 made], .agg #[.int .i64 bl, .slice al nl kl]] w fun e w' => e = .returned (.bool (reachB id made b1 n1 f1 g1 b2 n2 f2 g2 n3 h bl nl fl gl)) ∧ Below w.heap.size w w' := by
  have hb0 := ((Below.refl _ w).alloc (Nat.le_refl _) (.cells #[.int .i64 id, .int .i64 b1, .slice a1 n1 k1, .int .i64 b2, .slice a2 n2 k2, .slice a3 n3 k3, .int .i64 made] 39)).alloc (by simp) (.cells #[.int .i64 bl, .slice al nl kl] 26)
  have yT : Blk ((w.alloc (.cells #[.int .i64 id, .int .i64 b1, .slice a1 n1 k1, .int .i64 b2, .slice a2 n2 k2, .slice a3 n3 k3, .int .i64 made] 39)).alloc (.cells #[.int .i64 bl, .slice al nl kl] 26)) w.heap.size (.cells #[.int .i64 id, .int .i64 b1, .slice a1 n1 k1, .int .i64 b2, .slice a2 n2 k2, .slice a3 n3 k3, .int .i64 made] 39) := (Blk.new w _).alloc _
  have yL : Blk ((w.alloc (.cells #[.int .i64 id, .int .i64 b1, .slice a1 n1 k1, .int .i64 b2, .slice a2 n2 k2, .slice a3 n3 k3, .int .i64 made] 39)).alloc (.cells #[.int .i64 bl, .slice al nl kl] 26)) (w.heap.size + 1) (.cells #[.int .i64 bl, .slice al nl kl] 26) := by have := Blk.new (w.alloc (.cells #[.int .i64 id, .int .i64 b1, .slice a1 n1 k1, .int .i64 b2, .slice a2 n2 k2, .slice a3 n3 k3, .int .i64 made] 39)) (.cells #[.int .i64 bl, .slice al nl kl] 26); simpa using this
  go_enter Try.func24, Try.ntmps24
  go_wp2_with fail
  refine (implThr_any _ _ _ _ _ _ f1 g1 _ _ _ _ f2 g2 _ _ _ h _ hn1 hn2 hn3 (hc1.below hb0) (hc2.below hb0) (hc3.below hb0)).mono ?_
  rintro e w1 ⟨rfl, hb1⟩
  have B1 : Below w.heap.size w w1 := hb0.trans (hb1.mono (by simp; omega))
  have xT := yT.below hb1
  have xL := yL.below hb1
  obtain ⟨x0, x1, x2, x3, x4, x5, x6⟩ := xT.seven
  obtain ⟨x7, x8⟩ := xL.two
  clear yT yL hb0 hb1
  by_cases t1 : thrOk id made b1 n1 f1 g1 b2 n2 f2 g2 n3 h = true
  · go_wp2_with fail
    refine (implFlows_any _ _ _ _ f1 g1 _ _ _ h _ _ _ _ fl gl _ hn1 hnl hn3 (hc1.below B1) (hcl.below B1) (hc3.below B1)).mono ?_
    rintro e w2 ⟨rfl, hb2⟩
    have B2 : Below w.heap.size w w2 := B1.trans (hb2.mono B1.size)
    clear x0 x1 x2 x3 x4 x5 x6 x7 x8 xT xL
    go_wp2
    go_ret
    obtain ⟨p1, _, p3⟩ := thrOk_out t1
    exact ⟨ret_bool (by simp [flowAll, reachB, t1, p1, p3]), B2⟩
  · have t1' : thrOk id made b1 n1 f1 g1 b2 n2 f2 g2 n3 h = false := by simpa using t1
    clear t1
    go_wp2
    go_ret
    exact ⟨ret_bool (by simp [reachB, t1']), B1⟩

set_option maxRecDepth 100000 in
set_option maxHeartbeats 1000000 in
theorem implChanges_any (id made b1 : Int) (a1 : Option Addr) (n1 k1 : Nat) (f1 g1 : Nat → Int) (b2 : Int) (a2 : Option Addr) (n2 k2 : Nat) (f2 g2 : Nat → Int) (a3 : Option Addr) (n3 k3 : Nat) (h : Nat → Int) (bl : Int) (al : Option Addr) (nl kl : Nat) (fl gl : Nat → Int) (w : World) (hn1 : n1 ≤ maxLen) (hn2 : n2 ≤ maxLen) (hn3 : n3 ≤ maxLen) (hc1 : CatsAt w a1 n1 f1 g1) (hc2 : CatsAt w a2 n2 f2 g2) (hc3 : IntsAt w a3 n3 h) (hnl : nl ≤ maxLen) (hcl : CatsAt w al nl fl gl) :
    Calls Try.prog 23 #[.agg #[.int .i64 id, .int .i64 b1, .slice a1 n1 k1, .int .i64 b2, .slice a2 n2 k2, .slice a3 n3 k3, .int .i64 made], .agg #[.int .i64 bl, .slice al nl kl]] w fun e w' => e = .returned (.bool (changesB id made b1 n1 f1 g1 b2 n2 f2 g2 n3 h bl nl fl gl)) ∧ Below w.heap.size w w' := by
  have hb0 := ((Below.refl _ w).alloc (Nat.le_refl _) (.cells #[.int .i64 id, .int .i64 b1, .slice a1 n1 k1, .int .i64 b2, .slice a2 n2 k2, .slice a3 n3 k3, .int .i64 made] 39)).alloc (by simp) (.cells #[.int .i64 bl, .slice al nl kl] 26)
  have yT : Blk ((w.alloc (.cells #[.int .i64 id, .int .i64 b1, .slice a1 n1 k1, .int .i64 b2, .slice a2 n2 k2, .slice a3 n3 k3, .int .i64 made] 39)).alloc (.cells #[.int .i64 bl, .slice al nl kl] 26)) w.heap.size (.cells #[.int .i64 id, .int .i64 b1, .slice a1 n1 k1, .int .i64 b2, .slice a2 n2 k2, .slice a3 n3 k3, .int .i64 made] 39) := (Blk.new w _).alloc _
  have yL : Blk ((w.alloc (.cells #[.int .i64 id, .int .i64 b1, .slice a1 n1 k1, .int .i64 b2, .slice a2 n2 k2, .slice a3 n3 k3, .int .i64 made] 39)).alloc (.cells #[.int .i64 bl, .slice al nl kl] 26)) (w.heap.size + 1) (.cells #[.int .i64 bl, .slice al nl kl] 26) := by have := Blk.new (w.alloc (.cells #[.int .i64 id, .int .i64 b1, .slice a1 n1 k1, .int .i64 b2, .slice a2 n2 k2, .slice a3 n3 k3, .int .i64 made] 39)) (.cells #[.int .i64 bl, .slice al nl kl] 26); simpa using this
  go_enter Try.func23, Try.ntmps23
  go_wp2_with fail
  refine (implSees_any _ _ _ _ _ _ f1 g1 _ _ _ _ f2 g2 _ _ _ h _ _ _ _ fl gl _ hn1 hn2 hn3 (hc1.below hb0) (hc2.below hb0) (hc3.below hb0) hnl (hcl.below hb0)).mono ?_
  rintro e w1 ⟨rfl, hb1⟩
  have B1 : Below w.heap.size w w1 := hb0.trans (hb1.mono (by simp; omega))
  have xT := yT.below hb1
  have xL := yL.below hb1
  obtain ⟨x0, x1, x2, x3, x4, x5, x6⟩ := xT.seven
  obtain ⟨x7, x8⟩ := xL.two
  clear yT yL hb0 hb1
  by_cases t1 : seesB id made b1 n1 f1 g1 b2 n2 f2 g2 n3 h bl nl fl gl = true
  · go_wp2_with fail
    refine (implReaches_any _ _ _ _ _ _ f1 g1 _ _ _ _ f2 g2 _ _ _ h _ _ _ _ fl gl _ hn1 hn2 hn3 (hc1.below B1) (hc2.below B1) (hc3.below B1) hnl (hcl.below B1)).mono ?_
    rintro e w2 ⟨rfl, hb2⟩
    have B2 : Below w.heap.size w w2 := B1.trans (hb2.mono B1.size)
    clear x0 x1 x2 x3 x4 x5 x6 x7 x8 xT xL
    go_wp2
    go_ret
    exact ⟨ret_bool (by simp [changesB, t1]), B2⟩
  · have t1' : seesB id made b1 n1 f1 g1 b2 n2 f2 g2 n3 h bl nl fl gl = false := by simpa using t1
    clear t1
    go_wp2
    go_ret
    exact ⟨ret_bool (by simp [changesB, t1']), B1⟩

set_option maxRecDepth 100000 in
set_option maxHeartbeats 1000000 in
theorem l2Sees_any (id made b1 : Int) (a1 : Option Addr) (n1 k1 : Nat) (f1 g1 : Nat → Int) (b2 : Int) (a2 : Option Addr) (n2 k2 : Nat) (f2 g2 : Nat → Int) (a3 : Option Addr) (n3 k3 : Nat) (h : Nat → Int) (bl : Int) (al : Option Addr) (nl kl : Nat) (fl gl : Nat → Int) (w : World) (_hn1 : n1 ≤ maxLen) (_hn2 : n2 ≤ maxLen) (hn3 : n3 ≤ maxLen) (hc1 : CatsAt w a1 n1 f1 g1) (_hc2 : CatsAt w a2 n2 f2 g2) (hc3 : IntsAt w a3 n3 h) (_hnl : nl ≤ maxLen) (hcl : CatsAt w al nl fl gl) (hm1 : n1 ≤ 1048576) (hml : nl ≤ 1048576) (hr1 : ∀ j, j < n1 → ∀ i, i < j → f1 i < f1 j) (hrl : ∀ j, j < nl → ∀ i, i < j → fl i < fl j) :
    Calls Try.prog 60 #[.agg #[.int .i64 id, .int .i64 b1, .slice a1 n1 k1, .int .i64 b2, .slice a2 n2 k2, .slice a3 n3 k3, .int .i64 made], .agg #[.int .i64 bl, .slice al nl kl]] w fun e w' => e = .returned (.bool (flowsB bl nl fl gl n3 h b1 n1 f1 g1)) ∧ Below w.heap.size w w' := by
  have hb0 := ((Below.refl _ w).alloc (Nat.le_refl _) (.cells #[.int .i64 id, .int .i64 b1, .slice a1 n1 k1, .int .i64 b2, .slice a2 n2 k2, .slice a3 n3 k3, .int .i64 made] 39)).alloc (by simp) (.cells #[.int .i64 bl, .slice al nl kl] 26)
  have yT : Blk ((w.alloc (.cells #[.int .i64 id, .int .i64 b1, .slice a1 n1 k1, .int .i64 b2, .slice a2 n2 k2, .slice a3 n3 k3, .int .i64 made] 39)).alloc (.cells #[.int .i64 bl, .slice al nl kl] 26)) w.heap.size (.cells #[.int .i64 id, .int .i64 b1, .slice a1 n1 k1, .int .i64 b2, .slice a2 n2 k2, .slice a3 n3 k3, .int .i64 made] 39) := (Blk.new w _).alloc _
  have yL : Blk ((w.alloc (.cells #[.int .i64 id, .int .i64 b1, .slice a1 n1 k1, .int .i64 b2, .slice a2 n2 k2, .slice a3 n3 k3, .int .i64 made] 39)).alloc (.cells #[.int .i64 bl, .slice al nl kl] 26)) (w.heap.size + 1) (.cells #[.int .i64 bl, .slice al nl kl] 26) := by have := Blk.new (w.alloc (.cells #[.int .i64 id, .int .i64 b1, .slice a1 n1 k1, .int .i64 b2, .slice a2 n2 k2, .slice a3 n3 k3, .int .i64 made] 39)) (.cells #[.int .i64 bl, .slice al nl kl] 26); simpa using this
  go_enter Try.func60, Try.ntmps60
  go_wp2_with fail
  refine (l1Flows_any _ _ _ _ fl gl _ _ _ h _ _ _ _ f1 g1 _ hml hm1 hn3 (hcl.below hb0) (hc1.below hb0) (hc3.below hb0) hrl hr1).mono ?_
  rintro e w1 ⟨rfl, hb1⟩
  have B1 : Below w.heap.size w w1 := hb0.trans (hb1.mono (by simp; omega))
  clear yT yL hb0 hb1
  go_wp2
  go_ret
  exact ⟨rfl, B1⟩

set_option maxRecDepth 100000 in
set_option maxHeartbeats 1000000 in
theorem l2Changes_any (id made b1 : Int) (a1 : Option Addr) (n1 k1 : Nat) (f1 g1 : Nat → Int) (b2 : Int) (a2 : Option Addr) (n2 k2 : Nat) (f2 g2 : Nat → Int) (a3 : Option Addr) (n3 k3 : Nat) (h : Nat → Int) (bl : Int) (al : Option Addr) (nl kl : Nat) (fl gl : Nat → Int) (w : World) (hn1 : n1 ≤ maxLen) (hn2 : n2 ≤ maxLen) (hn3 : n3 ≤ maxLen) (hc1 : CatsAt w a1 n1 f1 g1) (hc2 : CatsAt w a2 n2 f2 g2) (hc3 : IntsAt w a3 n3 h) (hnl : nl ≤ maxLen) (hcl : CatsAt w al nl fl gl) (hm1 : n1 ≤ 1048576) (hml : nl ≤ 1048576) (hr1 : ∀ j, j < n1 → ∀ i, i < j → f1 i < f1 j) (hrl : ∀ j, j < nl → ∀ i, i < j → fl i < fl j) :
    Calls Try.prog 61 #[.agg #[.int .i64 id, .int .i64 b1, .slice a1 n1 k1, .int .i64 b2, .slice a2 n2 k2, .slice a3 n3 k3, .int .i64 made], .agg #[.int .i64 bl, .slice al nl kl]] w fun e w' => e = .returned (.bool (flowsB bl nl fl gl n3 h b1 n1 f1 g1 && flowsB b1 n1 f1 g1 n3 h bl nl fl gl)) ∧ Below w.heap.size w w' := by
  have hb0 := ((Below.refl _ w).alloc (Nat.le_refl _) (.cells #[.int .i64 id, .int .i64 b1, .slice a1 n1 k1, .int .i64 b2, .slice a2 n2 k2, .slice a3 n3 k3, .int .i64 made] 39)).alloc (by simp) (.cells #[.int .i64 bl, .slice al nl kl] 26)
  have yT : Blk ((w.alloc (.cells #[.int .i64 id, .int .i64 b1, .slice a1 n1 k1, .int .i64 b2, .slice a2 n2 k2, .slice a3 n3 k3, .int .i64 made] 39)).alloc (.cells #[.int .i64 bl, .slice al nl kl] 26)) w.heap.size (.cells #[.int .i64 id, .int .i64 b1, .slice a1 n1 k1, .int .i64 b2, .slice a2 n2 k2, .slice a3 n3 k3, .int .i64 made] 39) := (Blk.new w _).alloc _
  have yL : Blk ((w.alloc (.cells #[.int .i64 id, .int .i64 b1, .slice a1 n1 k1, .int .i64 b2, .slice a2 n2 k2, .slice a3 n3 k3, .int .i64 made] 39)).alloc (.cells #[.int .i64 bl, .slice al nl kl] 26)) (w.heap.size + 1) (.cells #[.int .i64 bl, .slice al nl kl] 26) := by have := Blk.new (w.alloc (.cells #[.int .i64 id, .int .i64 b1, .slice a1 n1 k1, .int .i64 b2, .slice a2 n2 k2, .slice a3 n3 k3, .int .i64 made] 39)) (.cells #[.int .i64 bl, .slice al nl kl] 26); simpa using this
  go_enter Try.func61, Try.ntmps61
  go_wp2_with fail
  refine (l2Sees_any _ _ _ _ _ _ f1 g1 _ _ _ _ f2 g2 _ _ _ h _ _ _ _ fl gl _ hn1 hn2 hn3 (hc1.below hb0) (hc2.below hb0) (hc3.below hb0) hnl (hcl.below hb0) hm1 hml hr1 hrl).mono ?_
  rintro e w1 ⟨rfl, hb1⟩
  have B1 : Below w.heap.size w w1 := hb0.trans (hb1.mono (by simp; omega))
  have xT := yT.below hb1
  have xL := yL.below hb1
  obtain ⟨x0, x1, x2, x3, x4, x5, x6⟩ := xT.seven
  obtain ⟨x7, x8⟩ := xL.two
  clear yT yL hb0 hb1
  by_cases t1 : flowsB bl nl fl gl n3 h b1 n1 f1 g1 = true
  · go_wp2_with fail
    refine (l1Flows_any _ _ _ _ f1 g1 _ _ _ h _ _ _ _ fl gl _ hm1 hml hn3 (hc1.below B1) (hcl.below B1) (hc3.below B1) hr1 hrl).mono ?_
    rintro e w2 ⟨rfl, hb2⟩
    have B2 : Below w.heap.size w w2 := B1.trans (hb2.mono B1.size)
    clear x0 x1 x2 x3 x4 x5 x6 x7 x8 xT xL
    go_wp2
    go_ret
    exact ⟨ret_bool (by rw [t1]; rfl), B2⟩
  · have t1' : flowsB bl nl fl gl n3 h b1 n1 f1 g1 = false := by simpa using t1
    clear t1
    go_wp2
    go_ret
    exact ⟨ret_bool (by rw [t1']; rfl), B1⟩

set_option maxRecDepth 100000 in
set_option maxHeartbeats 1000000 in
theorem specSees_any (id made b1 : Int) (a1 : Option Addr) (n1 k1 : Nat) (f1 g1 : Nat → Int) (b2 : Int) (a2 : Option Addr) (n2 k2 : Nat) (f2 g2 : Nat → Int) (a3 : Option Addr) (n3 k3 : Nat) (h : Nat → Int) (bl : Int) (al : Option Addr) (nl kl : Nat) (fl gl : Nat → Int) (w : World) (hn1 : n1 ≤ maxLen) (hn2 : n2 ≤ maxLen) (hn3 : n3 ≤ maxLen) (hc1 : CatsAt w a1 n1 f1 g1) (hc2 : CatsAt w a2 n2 f2 g2) (hc3 : IntsAt w a3 n3 h) (hnl : nl ≤ maxLen) (hcl : CatsAt w al nl fl gl) :
    Calls Try.prog 25 #[.agg #[.int .i64 id, .int .i64 b1, .slice a1 n1 k1, .int .i64 b2, .slice a2 n2 k2, .slice a3 n3 k3, .int .i64 made], .agg #[.int .i64 bl, .slice al nl kl]] w fun e w' => e = .returned (.bool (seesB id made b1 n1 f1 g1 b2 n2 f2 g2 n3 h bl nl fl gl)) ∧ Below w.heap.size w w' := by
  have hb0 := ((Below.refl _ w).alloc (Nat.le_refl _) (.cells #[.int .i64 id, .int .i64 b1, .slice a1 n1 k1, .int .i64 b2, .slice a2 n2 k2, .slice a3 n3 k3, .int .i64 made] 39)).alloc (by simp) (.cells #[.int .i64 bl, .slice al nl kl] 26)
  have yT : Blk ((w.alloc (.cells #[.int .i64 id, .int .i64 b1, .slice a1 n1 k1, .int .i64 b2, .slice a2 n2 k2, .slice a3 n3 k3, .int .i64 made] 39)).alloc (.cells #[.int .i64 bl, .slice al nl kl] 26)) w.heap.size (.cells #[.int .i64 id, .int .i64 b1, .slice a1 n1 k1, .int .i64 b2, .slice a2 n2 k2, .slice a3 n3 k3, .int .i64 made] 39) := (Blk.new w _).alloc _
  have yL : Blk ((w.alloc (.cells #[.int .i64 id, .int .i64 b1, .slice a1 n1 k1, .int .i64 b2, .slice a2 n2 k2, .slice a3 n3 k3, .int .i64 made] 39)).alloc (.cells #[.int .i64 bl, .slice al nl kl] 26)) (w.heap.size + 1) (.cells #[.int .i64 bl, .slice al nl kl] 26) := by have := Blk.new (w.alloc (.cells #[.int .i64 id, .int .i64 b1, .slice a1 n1 k1, .int .i64 b2, .slice a2 n2 k2, .slice a3 n3 k3, .int .i64 made] 39)) (.cells #[.int .i64 bl, .slice al nl kl] 26); simpa using this
  go_enter Try.func25, Try.ntmps25
  go_wp2_with fail
  refine (specThr_any _ _ _ _ _ _ f1 g1 _ _ _ _ f2 g2 _ _ _ h _ hn1 hn2 hn3 (hc1.below hb0) (hc2.below hb0) (hc3.below hb0)).mono ?_
  rintro e w1 ⟨rfl, hb1⟩
  have B1 : Below w.heap.size w w1 := hb0.trans (hb1.mono (by simp; omega))
  have xT := yT.below hb1
  have xL := yL.below hb1
  obtain ⟨x0, x1, x2, x3, x4, x5, x6⟩ := xT.seven
  obtain ⟨x7, x8⟩ := xL.two
  clear yT yL hb0 hb1
  by_cases t1 : thrOk id made b1 n1 f1 g1 b2 n2 f2 g2 n3 h = true
  · go_wp2_with fail
    refine (specOk_any _ _ _ _ fl gl _ hnl (hcl.below B1)).mono ?_
    rintro e w2 ⟨rfl, hb2⟩
    have B2 : Below w.heap.size w w2 := B1.trans (hb2.mono B1.size)
    clear x0 x1 x2 x3 x4 x5 x6 x7 x8
    have yT := xT.below hb2
    have yL := xL.below hb2
    obtain ⟨y0, y1, y2, y3, y4, y5, y6⟩ := yT.seven
    obtain ⟨y7, y8⟩ := yL.two
    clear xT xL hb2
    obtain ⟨p1, _, p3⟩ := thrOk_out t1
    have m1 : n1 ≤ 1048576 := by have := (labOk_out p1).2.1; omega
    have r1 := rising (labOk_out p1).2.2
    by_cases t2 : labOk bl nl fl gl = true
    · have ml : nl ≤ 1048576 := by have := (labOk_out t2).2.1; omega
      have rl := rising (labOk_out t2).2.2
      have R1 : Hid (∀ j, j < n1 → ∀ i, i < j → f1 i < f1 j) := r1
      have RL : Hid (∀ j, j < nl → ∀ i, i < j → fl i < fl j) := rl
      clear r1 rl
      go_wp2_with fail
      refine (l2Sees_any _ _ _ _ _ _ f1 g1 _ _ _ _ f2 g2 _ _ _ h _ _ _ _ fl gl _ hn1 hn2 hn3 (hc1.below B2) (hc2.below B2) (hc3.below B2) hnl (hcl.below B2) m1 ml R1.out RL.out).mono ?_
      rintro e w3 ⟨rfl, hb3⟩
      have B3 : Below w.heap.size w w3 := B2.trans (hb3.mono B2.size)
      clear y0 y1 y2 y3 y4 y5 y6 y7 y8 yT yL
      go_wp2
      go_ret
      exact ⟨ret_bool (by simp [seesB, t1, t2]), B3⟩
    · have t2' : labOk bl nl fl gl = false := by simpa using t2
      clear t2 r1
      go_wp2
      go_ret
      exact ⟨ret_bool (by simp [seesB, t2']), B2⟩
  · have t1' : thrOk id made b1 n1 f1 g1 b2 n2 f2 g2 n3 h = false := by simpa using t1
    clear t1
    go_wp2
    go_ret
    exact ⟨ret_bool (by simp [seesB, t1']), B1⟩

set_option maxRecDepth 100000 in
set_option maxHeartbeats 1000000 in
theorem specChanges_any (id made b1 : Int) (a1 : Option Addr) (n1 k1 : Nat) (f1 g1 : Nat → Int) (b2 : Int) (a2 : Option Addr) (n2 k2 : Nat) (f2 g2 : Nat → Int) (a3 : Option Addr) (n3 k3 : Nat) (h : Nat → Int) (bl : Int) (al : Option Addr) (nl kl : Nat) (fl gl : Nat → Int) (w : World) (hn1 : n1 ≤ maxLen) (hn2 : n2 ≤ maxLen) (hn3 : n3 ≤ maxLen) (hc1 : CatsAt w a1 n1 f1 g1) (hc2 : CatsAt w a2 n2 f2 g2) (hc3 : IntsAt w a3 n3 h) (hnl : nl ≤ maxLen) (hcl : CatsAt w al nl fl gl) :
    Calls Try.prog 26 #[.agg #[.int .i64 id, .int .i64 b1, .slice a1 n1 k1, .int .i64 b2, .slice a2 n2 k2, .slice a3 n3 k3, .int .i64 made], .agg #[.int .i64 bl, .slice al nl kl]] w fun e w' => e = .returned (.bool (changesB id made b1 n1 f1 g1 b2 n2 f2 g2 n3 h bl nl fl gl)) ∧ Below w.heap.size w w' := by
  have hb0 := ((Below.refl _ w).alloc (Nat.le_refl _) (.cells #[.int .i64 id, .int .i64 b1, .slice a1 n1 k1, .int .i64 b2, .slice a2 n2 k2, .slice a3 n3 k3, .int .i64 made] 39)).alloc (by simp) (.cells #[.int .i64 bl, .slice al nl kl] 26)
  have yT : Blk ((w.alloc (.cells #[.int .i64 id, .int .i64 b1, .slice a1 n1 k1, .int .i64 b2, .slice a2 n2 k2, .slice a3 n3 k3, .int .i64 made] 39)).alloc (.cells #[.int .i64 bl, .slice al nl kl] 26)) w.heap.size (.cells #[.int .i64 id, .int .i64 b1, .slice a1 n1 k1, .int .i64 b2, .slice a2 n2 k2, .slice a3 n3 k3, .int .i64 made] 39) := (Blk.new w _).alloc _
  have yL : Blk ((w.alloc (.cells #[.int .i64 id, .int .i64 b1, .slice a1 n1 k1, .int .i64 b2, .slice a2 n2 k2, .slice a3 n3 k3, .int .i64 made] 39)).alloc (.cells #[.int .i64 bl, .slice al nl kl] 26)) (w.heap.size + 1) (.cells #[.int .i64 bl, .slice al nl kl] 26) := by have := Blk.new (w.alloc (.cells #[.int .i64 id, .int .i64 b1, .slice a1 n1 k1, .int .i64 b2, .slice a2 n2 k2, .slice a3 n3 k3, .int .i64 made] 39)) (.cells #[.int .i64 bl, .slice al nl kl] 26); simpa using this
  go_enter Try.func26, Try.ntmps26
  go_wp2_with fail
  refine (specThr_any _ _ _ _ _ _ f1 g1 _ _ _ _ f2 g2 _ _ _ h _ hn1 hn2 hn3 (hc1.below hb0) (hc2.below hb0) (hc3.below hb0)).mono ?_
  rintro e w1 ⟨rfl, hb1⟩
  have B1 : Below w.heap.size w w1 := hb0.trans (hb1.mono (by simp; omega))
  have xT := yT.below hb1
  have xL := yL.below hb1
  obtain ⟨x0, x1, x2, x3, x4, x5, x6⟩ := xT.seven
  obtain ⟨x7, x8⟩ := xL.two
  clear yT yL hb0 hb1
  by_cases t1 : thrOk id made b1 n1 f1 g1 b2 n2 f2 g2 n3 h = true
  · go_wp2_with fail
    refine (specOk_any _ _ _ _ fl gl _ hnl (hcl.below B1)).mono ?_
    rintro e w2 ⟨rfl, hb2⟩
    have B2 : Below w.heap.size w w2 := B1.trans (hb2.mono B1.size)
    clear x0 x1 x2 x3 x4 x5 x6 x7 x8
    have yT := xT.below hb2
    have yL := xL.below hb2
    obtain ⟨y0, y1, y2, y3, y4, y5, y6⟩ := yT.seven
    obtain ⟨y7, y8⟩ := yL.two
    clear xT xL hb2
    obtain ⟨p1, _, p3⟩ := thrOk_out t1
    have m1 : n1 ≤ 1048576 := by have := (labOk_out p1).2.1; omega
    have r1 := rising (labOk_out p1).2.2
    by_cases t2 : labOk bl nl fl gl = true
    · have ml : nl ≤ 1048576 := by have := (labOk_out t2).2.1; omega
      have rl := rising (labOk_out t2).2.2
      have R1 : Hid (∀ j, j < n1 → ∀ i, i < j → f1 i < f1 j) := r1
      have RL : Hid (∀ j, j < nl → ∀ i, i < j → fl i < fl j) := rl
      clear r1 rl
      go_wp2_with fail
      refine (l2Changes_any _ _ _ _ _ _ f1 g1 _ _ _ _ f2 g2 _ _ _ h _ _ _ _ fl gl _ hn1 hn2 hn3 (hc1.below B2) (hc2.below B2) (hc3.below B2) hnl (hcl.below B2) m1 ml R1.out RL.out).mono ?_
      rintro e w3 ⟨rfl, hb3⟩
      have B3 : Below w.heap.size w w3 := B2.trans (hb3.mono B2.size)
      clear y0 y1 y2 y3 y4 y5 y6 y7 y8 yT yL
      go_wp2
      go_ret
      exact ⟨ret_bool (by simp [changesB, seesB, reachB, t1, t2]), B3⟩
    · have t2' : labOk bl nl fl gl = false := by simpa using t2
      clear t2 r1
      go_wp2
      go_ret
      exact ⟨ret_bool (by simp [changesB, seesB, t2']), B2⟩
  · have t1' : thrOk id made b1 n1 f1 g1 b2 n2 f2 g2 n3 h = false := by simpa using t1
    clear t1
    go_wp2
    go_ret
    exact ⟨ret_bool (by simp [changesB, seesB, t1']), B1⟩

set_option maxRecDepth 100000 in
set_option maxHeartbeats 1000000 in
theorem specReaches_any (id made b1 : Int) (a1 : Option Addr) (n1 k1 : Nat) (f1 g1 : Nat → Int) (b2 : Int) (a2 : Option Addr) (n2 k2 : Nat) (f2 g2 : Nat → Int) (a3 : Option Addr) (n3 k3 : Nat) (h : Nat → Int) (bl : Int) (al : Option Addr) (nl kl : Nat) (fl gl : Nat → Int) (w : World) (hn1 : n1 ≤ maxLen) (hn2 : n2 ≤ maxLen) (hn3 : n3 ≤ maxLen) (hc1 : CatsAt w a1 n1 f1 g1) (hc2 : CatsAt w a2 n2 f2 g2) (hc3 : IntsAt w a3 n3 h) (hnl : nl ≤ maxLen) (hcl : CatsAt w al nl fl gl) :
    Calls Try.prog 27 #[.agg #[.int .i64 id, .int .i64 b1, .slice a1 n1 k1, .int .i64 b2, .slice a2 n2 k2, .slice a3 n3 k3, .int .i64 made], .agg #[.int .i64 bl, .slice al nl kl]] w fun e w' => e = .returned (.bool (reachB id made b1 n1 f1 g1 b2 n2 f2 g2 n3 h bl nl fl gl)) ∧ Below w.heap.size w w' := by
  have hb0 := ((Below.refl _ w).alloc (Nat.le_refl _) (.cells #[.int .i64 id, .int .i64 b1, .slice a1 n1 k1, .int .i64 b2, .slice a2 n2 k2, .slice a3 n3 k3, .int .i64 made] 39)).alloc (by simp) (.cells #[.int .i64 bl, .slice al nl kl] 26)
  have yT : Blk ((w.alloc (.cells #[.int .i64 id, .int .i64 b1, .slice a1 n1 k1, .int .i64 b2, .slice a2 n2 k2, .slice a3 n3 k3, .int .i64 made] 39)).alloc (.cells #[.int .i64 bl, .slice al nl kl] 26)) w.heap.size (.cells #[.int .i64 id, .int .i64 b1, .slice a1 n1 k1, .int .i64 b2, .slice a2 n2 k2, .slice a3 n3 k3, .int .i64 made] 39) := (Blk.new w _).alloc _
  have yL : Blk ((w.alloc (.cells #[.int .i64 id, .int .i64 b1, .slice a1 n1 k1, .int .i64 b2, .slice a2 n2 k2, .slice a3 n3 k3, .int .i64 made] 39)).alloc (.cells #[.int .i64 bl, .slice al nl kl] 26)) (w.heap.size + 1) (.cells #[.int .i64 bl, .slice al nl kl] 26) := by have := Blk.new (w.alloc (.cells #[.int .i64 id, .int .i64 b1, .slice a1 n1 k1, .int .i64 b2, .slice a2 n2 k2, .slice a3 n3 k3, .int .i64 made] 39)) (.cells #[.int .i64 bl, .slice al nl kl] 26); simpa using this
  go_enter Try.func27, Try.ntmps27
  go_wp2_with fail
  refine (specThr_any _ _ _ _ _ _ f1 g1 _ _ _ _ f2 g2 _ _ _ h _ hn1 hn2 hn3 (hc1.below hb0) (hc2.below hb0) (hc3.below hb0)).mono ?_
  rintro e w1 ⟨rfl, hb1⟩
  have B1 : Below w.heap.size w w1 := hb0.trans (hb1.mono (by simp; omega))
  have xT := yT.below hb1
  have xL := yL.below hb1
  obtain ⟨x0, x1, x2, x3, x4, x5, x6⟩ := xT.seven
  obtain ⟨x7, x8⟩ := xL.two
  clear yT yL hb0 hb1
  by_cases t1 : thrOk id made b1 n1 f1 g1 b2 n2 f2 g2 n3 h = true
  · go_wp2_with fail
    refine (specOk_any _ _ _ _ fl gl _ hnl (hcl.below B1)).mono ?_
    rintro e w2 ⟨rfl, hb2⟩
    have B2 : Below w.heap.size w w2 := B1.trans (hb2.mono B1.size)
    clear x0 x1 x2 x3 x4 x5 x6 x7 x8
    have yT := xT.below hb2
    have yL := xL.below hb2
    obtain ⟨y0, y1, y2, y3, y4, y5, y6⟩ := yT.seven
    obtain ⟨y7, y8⟩ := yL.two
    clear xT xL hb2
    obtain ⟨p1, _, p3⟩ := thrOk_out t1
    have m1 : n1 ≤ 1048576 := by have := (labOk_out p1).2.1; omega
    have r1 := rising (labOk_out p1).2.2
    by_cases t2 : labOk bl nl fl gl = true
    · have ml : nl ≤ 1048576 := by have := (labOk_out t2).2.1; omega
      have rl := rising (labOk_out t2).2.2
      have R1 : Hid (∀ j, j < n1 → ∀ i, i < j → f1 i < f1 j) := r1
      have RL : Hid (∀ j, j < nl → ∀ i, i < j → fl i < fl j) := rl
      clear r1 rl
      go_wp2_with fail
      refine (l1Flows_any _ _ _ _ f1 g1 _ _ _ h _ _ _ _ fl gl _ m1 ml hn3 (hc1.below B2) (hcl.below B2) (hc3.below B2) R1.out RL.out).mono ?_
      rintro e w3 ⟨rfl, hb3⟩
      have B3 : Below w.heap.size w w3 := B2.trans (hb3.mono B2.size)
      clear y0 y1 y2 y3 y4 y5 y6 y7 y8 yT yL
      go_wp2
      go_ret
      exact ⟨ret_bool (by simp [reachB, t1, t2]), B3⟩
    · have t2' : labOk bl nl fl gl = false := by simpa using t2
      clear t2 r1
      go_wp2
      go_ret
      exact ⟨ret_bool (by simp [reachB, t2']), B2⟩
  · have t1' : thrOk id made b1 n1 f1 g1 b2 n2 f2 g2 n3 h = false := by simpa using t1
    clear t1
    go_wp2
    go_ret
    exact ⟨ret_bool (by simp [reachB, t1']), B1⟩
end Go.Proofs.Ytjolkbcnglhebaa
