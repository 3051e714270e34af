/- Sees, Changes, Reaches of the program, and Flows, Sees, Changes, Reaches of the model, answer plain functions. -/
import Derived.Test.YtimacbpfnkephaaFD
import Derived.Test.YtimacbpfnkephaaZA
import Derived.Test.YtimacbpfnkephaaKX3
namespace Go.Proofs.Ytimacbpfnkephaa
open Go.RowKit Go.Deep Go.Maps

def seesB (id made b1 : Int) (n1 : Nat) (f1 g1 : Nat → Int) (b2 : Int) (n2 : Nat) (f2 g2 : Nat → Int) (n3 : Nat) (h : Nat → Int) (bl : Int) (nl : Nat) (fl gl : Nat → Int) : Bool :=
  thrOk id made b1 n1 f1 g1 b2 n2 f2 g2 n3 h && (labOk bl nl fl gl && flowsB bl nl fl gl n3 h b1 n1 f1 g1)
def rchB (id made b1 : Int) (n1 : Nat) (f1 g1 : Nat → Int) (b2 : Int) (n2 : Nat) (f2 g2 : Nat → Int) (n3 : Nat) (h : Nat → Int) (bl : Int) (nl : Nat) (fl gl : Nat → Int) : Bool :=
  thrOk id made b1 n1 f1 g1 b2 n2 f2 g2 n3 h && (labOk bl nl fl gl && flowsB b1 n1 f1 g1 n3 h bl nl fl gl)
def changesB (id made b1 : Int) (n1 : Nat) (f1 g1 : Nat → Int) (b2 : Int) (n2 : Nat) (f2 g2 : Nat → Int) (n3 : Nat) (h : Nat → Int) (bl : Int) (nl : Nat) (fl gl : Nat → Int) : Bool :=
  seesB id made b1 n1 f1 g1 b2 n2 f2 g2 n3 h bl nl fl gl && rchB id made b1 n1 f1 g1 b2 n2 f2 g2 n3 h bl nl fl gl

theorem thrOk_out {id made b1 : Int} {n1 : Nat} {f1 g1 : Nat → Int} {b2 : Int} {n2 : Nat} {f2 g2 : Nat → Int} {n3 : Nat} {h : Nat → Int} (t : thrOk id made b1 n1 f1 g1 b2 n2 f2 g2 n3 h = true) : labOk b1 n1 f1 g1 = true ∧ labOk b2 n2 f2 g2 = true ∧ ownOk n3 h = true := by
  simp only [thrOk, Bool.and_eq_true] at t
  exact ⟨t.1.1.1.2, t.1.1.2, t.1.2⟩

set_option maxRecDepth 100000 in
set_option maxHeartbeats 1000000 in
theorem implSees_any (id made b1 : Int) (a1 : Option Addr) (n1 k1 : Nat) (f1 g1 : Nat → Int) (b2 : Int) (a2 : Option Addr) (n2 k2 : Nat) (f2 g2 : Nat → Int) (a3 : Option Addr) (n3 k3 : Nat) (h : Nat → Int) (bl : Int) (al : Option Addr) (nl kl : Nat) (fl gl : Nat → Int) (w : World) (hn1 : n1 ≤ maxLen) (hn2 : n2 ≤ maxLen) (hn3 : n3 ≤ maxLen) (hc1 : CatsAt w a1 n1 f1 g1) (hc2 : CatsAt w a2 n2 f2 g2) (hc3 : IntsAt w a3 n3 h) (hnl : nl ≤ maxLen) (hcl : CatsAt w al nl fl gl) :
    Calls Try.prog 19 #[.agg #[.int .i64 id, .int .i64 b1, .slice a1 n1 k1, .int .i64 b2, .slice a2 n2 k2, .slice a3 n3 k3, .int .i64 made], .agg #[.int .i64 bl, .slice al nl kl]] w fun e w' => e = .returned (.bool (seesB id made b1 n1 f1 g1 b2 n2 f2 g2 n3 h bl nl fl gl)) ∧ Below w.heap.size w w' := by
  have hb0 := ((Below.refl _ w).alloc (Nat.le_refl _) (.cells #[.int .i64 id, .int .i64 b1, .slice a1 n1 k1, .int .i64 b2, .slice a2 n2 k2, .slice a3 n3 k3, .int .i64 made] 41)).alloc (by simp) (.cells #[.int .i64 bl, .slice al nl kl] 33)
  have yT : Blk ((w.alloc (.cells #[.int .i64 id, .int .i64 b1, .slice a1 n1 k1, .int .i64 b2, .slice a2 n2 k2, .slice a3 n3 k3, .int .i64 made] 41)).alloc (.cells #[.int .i64 bl, .slice al nl kl] 33)) w.heap.size (.cells #[.int .i64 id, .int .i64 b1, .slice a1 n1 k1, .int .i64 b2, .slice a2 n2 k2, .slice a3 n3 k3, .int .i64 made] 41) := (Blk.new w _).alloc _
  have yL : Blk ((w.alloc (.cells #[.int .i64 id, .int .i64 b1, .slice a1 n1 k1, .int .i64 b2, .slice a2 n2 k2, .slice a3 n3 k3, .int .i64 made] 41)).alloc (.cells #[.int .i64 bl, .slice al nl kl] 33)) (w.heap.size + 1) (.cells #[.int .i64 bl, .slice al nl kl] 33) := by have := Blk.new (w.alloc (.cells #[.int .i64 id, .int .i64 b1, .slice a1 n1 k1, .int .i64 b2, .slice a2 n2 k2, .slice a3 n3 k3, .int .i64 made] 41)) (.cells #[.int .i64 bl, .slice al nl kl] 33); simpa using this
  go_enter Try.func19, Try.ntmps19
  go_wp2_with fail
  refine (implThr_any _ _ _ _ _ _ f1 g1 _ _ _ _ f2 g2 _ _ _ h _ hn1 hn2 hn3 (hc1.below hb0) (hc2.below hb0) (hc3.below hb0)).mono ?_
  rintro e w1 ⟨rfl, hb1⟩
  have B1 : Below w.heap.size w w1 := hb0.trans (hb1.mono (by simp; omega))
  have xT := yT.below hb1
  have xL := yL.below hb1
  obtain ⟨x0, x1, x2, x3, x4, x5, x6⟩ := xT.seven
  obtain ⟨x7, x8⟩ := xL.two
  clear yT yL hb0 hb1
  by_cases t1 : thrOk id made b1 n1 f1 g1 b2 n2 f2 g2 n3 h = true
  · go_wp2_with fail
    refine (implFlows_any _ _ _ _ fl gl _ _ _ h _ _ _ _ f1 g1 _ hnl hn1 hn3 (hcl.below B1) (hc1.below B1) (hc3.below B1)).mono ?_
    rintro e w2 ⟨rfl, hb2⟩
    have B2 : Below w.heap.size w w2 := B1.trans (hb2.mono B1.size)
    clear x0 x1 x2 x3 x4 x5 x6 x7 x8 xT xL
    go_wp2
    go_ret
    obtain ⟨p1, _, p3⟩ := thrOk_out t1
    exact ⟨ret_bool (by simp [flowAll, seesB, t1, p1, p3]), B2⟩
  · have t1' : thrOk id made b1 n1 f1 g1 b2 n2 f2 g2 n3 h = false := by simpa using t1
    clear t1
    go_wp2
    go_ret
    exact ⟨ret_bool (by simp [seesB, t1']), B1⟩

set_option maxRecDepth 100000 in
set_option maxHeartbeats 1000000 in
theorem implReaches_any (id made b1 : Int) (a1 : Option Addr) (n1 k1 : Nat) (f1 g1 : Nat → Int) (b2 : Int) (a2 : Option Addr) (n2 k2 : Nat) (f2 g2 : Nat → Int) (a3 : Option Addr) (n3 k3 : Nat) (h : Nat → Int) (bl : Int) (al : Option Addr) (nl kl : Nat) (fl gl : Nat → Int) (w : World) (hn1 : n1 ≤ maxLen) (hn2 : n2 ≤ maxLen) (hn3 : n3 ≤ maxLen) (hc1 : CatsAt w a1 n1 f1 g1) (hc2 : CatsAt w a2 n2 f2 g2) (hc3 : IntsAt w a3 n3 h) (hnl : nl ≤ maxLen) (hcl : CatsAt w al nl fl gl) :
    Calls Try.prog 20 #[.agg #[.int .i64 id, .int .i64 b1, .slice a1 n1 k1, .int .i64 b2, .slice a2 n2 k2, .slice a3 n3 k3, .int .i64 made], .agg #[.int .i64 bl, .slice al nl kl]] w fun e w' => e = .returned (.bool (rchB id made b1 n1 f1 g1 b2 n2 f2 g2 n3 h bl nl fl gl)) ∧ Below w.heap.size w w' := by
  have hb0 := ((Below.refl _ w).alloc (Nat.le_refl _) (.cells #[.int .i64 id, .int .i64 b1, .slice a1 n1 k1, .int .i64 b2, .slice a2 n2 k2, .slice a3 n3 k3, .int .i64 made] 41)).alloc (by simp) (.cells #[.int .i64 bl, .slice al nl kl] 33)
  have yT : Blk ((w.alloc (.cells #[.int .i64 id, .int .i64 b1, .slice a1 n1 k1, .int .i64 b2, .slice a2 n2 k2, .slice a3 n3 k3, .int .i64 made] 41)).alloc (.cells #[.int .i64 bl, .slice al nl kl] 33)) w.heap.size (.cells #[.int .i64 id, .int .i64 b1, .slice a1 n1 k1, .int .i64 b2, .slice a2 n2 k2, .slice a3 n3 k3, .int .i64 made] 41) := (Blk.new w _).alloc _
  have yL : Blk ((w.alloc (.cells #[.int .i64 id, .int .i64 b1, .slice a1 n1 k1, .int .i64 b2, .slice a2 n2 k2, .slice a3 n3 k3, .int .i64 made] 41)).alloc (.cells #[.int .i64 bl, .slice al nl kl] 33)) (w.heap.size + 1) (.cells #[.int .i64 bl, .slice al nl kl] 33) := by have := Blk.new (w.alloc (.cells #[.int .i64 id, .int .i64 b1, .slice a1 n1 k1, .int .i64 b2, .slice a2 n2 k2, .slice a3 n3 k3, .int .i64 made] 41)) (.cells #[.int .i64 bl, .slice al nl kl] 33); simpa using this
  go_enter Try.func20, Try.ntmps20
  go_wp2_with fail
  refine (implThr_any _ _ _ _ _ _ f1 g1 _ _ _ _ f2 g2 _ _ _ h _ hn1 hn2 hn3 (hc1.below hb0) (hc2.below hb0) (hc3.below hb0)).mono ?_
  rintro e w1 ⟨rfl, hb1⟩
  have B1 : Below w.heap.size w w1 := hb0.trans (hb1.mono (by simp; omega))
  have xT := yT.below hb1
  have xL := yL.below hb1
  obtain ⟨x0, x1, x2, x3, x4, x5, x6⟩ := xT.seven
  obtain ⟨x7, x8⟩ := xL.two
  clear yT yL hb0 hb1
  by_cases t1 : thrOk id made b1 n1 f1 g1 b2 n2 f2 g2 n3 h = true
  · go_wp2_with fail
    refine (implFlows_any _ _ _ _ f1 g1 _ _ _ h _ _ _ _ fl gl _ hn1 hnl hn3 (hc1.below B1) (hcl.below B1) (hc3.below B1)).mono ?_
    rintro e w2 ⟨rfl, hb2⟩
    have B2 : Below w.heap.size w w2 := B1.trans (hb2.mono B1.size)
    clear x0 x1 x2 x3 x4 x5 x6 x7 x8 xT xL
    go_wp2
    go_ret
    obtain ⟨p1, _, p3⟩ := thrOk_out t1
    exact ⟨ret_bool (by simp [flowAll, rchB, t1, p1, p3]), B2⟩
  · have t1' : thrOk id made b1 n1 f1 g1 b2 n2 f2 g2 n3 h = false := by simpa using t1
    clear t1
    go_wp2
    go_ret
    exact ⟨ret_bool (by simp [rchB, t1']), B1⟩

set_option maxRecDepth 100000 in
set_option maxHeartbeats 1000000 in
theorem implChanges_any (id made b1 : Int) (a1 : Option Addr) (n1 k1 : Nat) (f1 g1 : Nat → Int) (b2 : Int) (a2 : Option Addr) (n2 k2 : Nat) (f2 g2 : Nat → Int) (a3 : Option Addr) (n3 k3 : Nat) (h : Nat → Int) (bl : Int) (al : Option Addr) (nl kl : Nat) (fl gl : Nat → Int) (w : World) (hn1 : n1 ≤ maxLen) (hn2 : n2 ≤ maxLen) (hn3 : n3 ≤ maxLen) (hc1 : CatsAt w a1 n1 f1 g1) (hc2 : CatsAt w a2 n2 f2 g2) (hc3 : IntsAt w a3 n3 h) (hnl : nl ≤ maxLen) (hcl : CatsAt w al nl fl gl) :
    Calls Try.prog 10 #[.agg #[.int .i64 id, .int .i64 b1, .slice a1 n1 k1, .int .i64 b2, .slice a2 n2 k2, .slice a3 n3 k3, .int .i64 made], .agg #[.int .i64 bl, .slice al nl kl]] w fun e w' => e = .returned (.bool (changesB id made b1 n1 f1 g1 b2 n2 f2 g2 n3 h bl nl fl gl)) ∧ Below w.heap.size w w' := by
  have hb0 := ((Below.refl _ w).alloc (Nat.le_refl _) (.cells #[.int .i64 id, .int .i64 b1, .slice a1 n1 k1, .int .i64 b2, .slice a2 n2 k2, .slice a3 n3 k3, .int .i64 made] 41)).alloc (by simp) (.cells #[.int .i64 bl, .slice al nl kl] 33)
  have yT : Blk ((w.alloc (.cells #[.int .i64 id, .int .i64 b1, .slice a1 n1 k1, .int .i64 b2, .slice a2 n2 k2, .slice a3 n3 k3, .int .i64 made] 41)).alloc (.cells #[.int .i64 bl, .slice al nl kl] 33)) w.heap.size (.cells #[.int .i64 id, .int .i64 b1, .slice a1 n1 k1, .int .i64 b2, .slice a2 n2 k2, .slice a3 n3 k3, .int .i64 made] 41) := (Blk.new w _).alloc _
  have yL : Blk ((w.alloc (.cells #[.int .i64 id, .int .i64 b1, .slice a1 n1 k1, .int .i64 b2, .slice a2 n2 k2, .slice a3 n3 k3, .int .i64 made] 41)).alloc (.cells #[.int .i64 bl, .slice al nl kl] 33)) (w.heap.size + 1) (.cells #[.int .i64 bl, .slice al nl kl] 33) := by have := Blk.new (w.alloc (.cells #[.int .i64 id, .int .i64 b1, .slice a1 n1 k1, .int .i64 b2, .slice a2 n2 k2, .slice a3 n3 k3, .int .i64 made] 41)) (.cells #[.int .i64 bl, .slice al nl kl] 33); simpa using this
  go_enter Try.func10, Try.ntmps10
  go_wp2_with fail
  refine (implSees_any _ _ _ _ _ _ f1 g1 _ _ _ _ f2 g2 _ _ _ h _ _ _ _ fl gl _ hn1 hn2 hn3 (hc1.below hb0) (hc2.below hb0) (hc3.below hb0) hnl (hcl.below hb0)).mono ?_
  rintro e w1 ⟨rfl, hb1⟩
  have B1 : Below w.heap.size w w1 := hb0.trans (hb1.mono (by simp; omega))
  have xT := yT.below hb1
  have xL := yL.below hb1
  obtain ⟨x0, x1, x2, x3, x4, x5, x6⟩ := xT.seven
  obtain ⟨x7, x8⟩ := xL.two
  clear yT yL hb0 hb1
  by_cases t1 : seesB id made b1 n1 f1 g1 b2 n2 f2 g2 n3 h bl nl fl gl = true
  · go_wp2_with fail
    refine (implReaches_any _ _ _ _ _ _ f1 g1 _ _ _ _ f2 g2 _ _ _ h _ _ _ _ fl gl _ hn1 hn2 hn3 (hc1.below B1) (hc2.below B1) (hc3.below B1) hnl (hcl.below B1)).mono ?_
    rintro e w2 ⟨rfl, hb2⟩
    have B2 : Below w.heap.size w w2 := B1.trans (hb2.mono B1.size)
    clear x0 x1 x2 x3 x4 x5 x6 x7 x8 xT xL
    go_wp2
    go_ret
    exact ⟨ret_bool (by simp [changesB, t1]), B2⟩
  · have t1' : seesB id made b1 n1 f1 g1 b2 n2 f2 g2 n3 h bl nl fl gl = false := by simpa using t1
    clear t1
    go_wp2
    go_ret
    exact ⟨ret_bool (by simp [changesB, t1']), B1⟩

end Go.Proofs.Ytimacbpfnkephaa
