/- ReadStep of the program: giving up ends in readBy. -/
import Derived.Test.YtcpphobokdkkeaaDoorTF
import Derived.Laws.Pointers
namespace Go.Proofs.YtcpphobokdkkeaaDoor
open Go Go.RowKit Go.Deep Go.Maps

theorem catch_panicking (p : Addr) (b : Bool) (u : TypeId) (pv : Value) (older : List PanicEntry) (w : World) (hc : w.cell? p = some (.bool b)) (hz : w.frozen? p = false) :
    CallsD Tryd.prog 49 #[.pointer (some p)] (.panicking ({ v := .iface u pv, recovered := false } :: older)) w fun e u' w' =>
      e = .returned (.tuple #[]) ∧ u' = .panicking ({ v := .iface u pv, recovered := true } :: older) ∧ w' = w.setCell p (.bool false) := by
  refine callsD_of_wpS Tryd.func49 rfl fun c₀ cs hu => ?_
  apply wpS_region
  simp [wpOpsS, go_sem, recoverD, hu, Tryd.ntmps49, hc, hz, bodyPostS, results, Tryd.results49]
theorem catch_idle (p : Addr) (b : Bool) (w : World) (hc : w.cell? p = some (.bool b)) (hz : w.frozen? p = false) :
    CallsD Tryd.prog 49 #[.pointer (some p)] .returning w fun e u' w' => e = .returned (.tuple #[]) ∧ u' = .returning ∧ w' = w.setCell p (.bool true) := by
  refine callsD_of_wpS Tryd.func49 rfl fun c₀ cs hu => ?_
  apply wpS_region
  simp [wpOpsS, go_sem, recoverD, hu, Tryd.ntmps49, hc, hz, bodyPostS, results, Tryd.results49]
  cases c₀
  simp_all
set_option maxRecDepth 100000 in
theorem results27 (tmps : Array Value) (W : World) (P Q : Nat) (b : Bool) (x0 x1 x2 x3 x4 x5 x6 x7 x8 x9 : Value) (h : Blk W P (.cells #[x0, x1, x2, x3, x4, x5, x6, x7, x8, x9] 33)) (hq : Blk W Q (.cells #[.bool b] 4)) (h2 : tmps[4]? = some (.pointer (some ⟨P, 0, none⟩))) (h3 : tmps[5]? = some (.pointer (some ⟨Q, 0, none⟩))) :
    (results Tryd.f27 tmps).run Tryd.prog W = .ok (.tuple #[.agg #[x0, x1, x2, x3, x4, x5, x6, x7, x8, x9], .bool b]) W := by
  obtain ⟨z0, z1, z2, z3, z4, z5, z6, z7, z8, z9⟩ := h.ten
  have y := hq.one
  simp [results, Tryd.results27, go_sem, h2, h3, z0, z1, z2, z3, z4, z5, z6, z7, z8, z9, y]

theorem Blk.other10 {W : World} {P Q : Nat} {o : Obj} (h : Blk W P o) (hne : Q ≠ P) (x0 x1 x2 x3 x4 x5 x6 x7 x8 x9 : Value) :
    Blk ((((((((((W.setCell ⟨Q, 0, none⟩ x0).setCell ⟨Q, 1, none⟩ x1).setCell ⟨Q, 2, none⟩ x2).setCell ⟨Q, 3, none⟩ x3).setCell ⟨Q, 4, none⟩ x4).setCell ⟨Q, 5, none⟩ x5).setCell ⟨Q, 6, none⟩ x6).setCell ⟨Q, 7, none⟩ x7).setCell ⟨Q, 8, none⟩ x8).setCell ⟨Q, 9, none⟩ x9) P o :=
  (((((((((h.other hne _).other hne _).other hne _).other hne _).other hne _).other hne _).other hne _).other hne _).other hne _).other hne _
theorem Two.set {w W : World} {v1 v2 : Value} {l1 l2 : List (Int × Int)} (h : Two w W v1 v2 l1 l2) {P : Nat} (hP : P < w.heap.size) (i : Nat) (x : Value) : Two w (W.setCell ⟨P, i, none⟩ x) v1 v2 l1 l2 := by
  obtain ⟨M1, M2, h1, h2, h3, h4, h5⟩ := h
  exact ⟨M1, M2, h1, h2, h3, OwnList.set h4 (by omega) _ _, OwnList.set h5 (by omega) _ _⟩
theorem Two.low {w X W : World} {v1 v2 : Value} {l1 l2 : List (Int × Int)} (h : Two X W v1 v2 l1 l2) (hX : w.heap.size ≤ X.heap.size) : Two w W v1 v2 l1 l2 := by
  obtain ⟨M1, M2, h1, h2, h3, h4, h5⟩ := h
  exact ⟨M1, M2, by omega, h2, h3, h4, h5⟩
theorem Two.below {w W W' : World} {v1 v2 : Value} {l1 l2 : List (Int × Int)} (h : Two w W v1 v2 l1 l2) (hb : Below W.heap.size W W') : Two w W' v1 v2 l1 l2 := by
  obtain ⟨M1, M2, h1, h2, h3, h4, h5⟩ := h
  exact ⟨M1, M2, h1, h2, h3, OwnList.below h4 hb, OwnList.below h5 hb⟩

set_option maxRecDepth 100000 in
set_option maxHeartbeats 4000000 in
theorem readBy_yes (L : List UInt8) (w : World) (hL : L.length ≤ 1048576) (hs : strictS L = true) :
    Calls Tryd.prog 27 #[.string ⟨L.toArray⟩, .func (.func 28) #[] #[]] w fun e w' => ∃ a1 k1 a2 k2, e = .returned (.tuple #[.agg #[.int .i64 (nm 0 L), .int .i64 (nm 1 L), .int .i64 (nm 2 L), .int .i64 (nm 3 L), .int .i64 (nm 4 L), .string ⟨(rst 7 L).toArray⟩, .int .i64 (rl 5 L).1, .slice a1 (rl 5 L).2.1.length k1, .int .i64 (rl 6 L).1, .slice a2 (rl 6 L).2.1.length k2], .bool true]) ∧ Two w w' (.slice a1 (rl 5 L).2.1.length k1) (.slice a2 (rl 6 L).2.1.length k2) (rl 5 L).2.1 (rl 6 L).2.1 ∧ Below w.heap.size w w' := by
  have hmf : ∀ (fn : Fn) (first cap : Array Value) (w : World), (Instr.makeFunc fn first cap).run Tryd.prog w = .ok (.func fn first cap) w := fun _ _ _ _ => rfl
  have Z := hid ((Blk.new w zeroS).alloc (.cells #[.bool false] 4))
  have Y := hid (Blk.new (w.alloc zeroS) (.cells #[.bool false] 4))
  have B := hid (((Below.refl _ w).alloc (Nat.le_refl _) zeroS).alloc (by simp) (.cells #[.bool false] 4))
  have RD : Hid (Reader ((w.alloc zeroS).alloc (.cells #[.bool false] 4)) (w.heap.size + 1 + 1) 0 L (((w.alloc zeroS).alloc (.cells #[.bool false] 4)).alloc (.cells #[.string ⟨L.toArray⟩] 87))) := by
    refine hid ⟨by simp, ?_, (Below.refl _ _).alloc (Nat.le_refl _) _⟩
    have := Blk.new ((w.alloc zeroS).alloc (.cells #[.bool false] 4)) (.cells #[.string ⟨L.toArray⟩] 87)
    simpa [rst] using this
  have ST := hid (step_yes _ _ L _ hL RD.out hs)
  go_enter_defers Tryd.func27, Tryd.ntmps27
  go_wp2_with fail
  refine ST.out.mono ?_
  rintro e w1 ⟨a1, k1, a2, k2, rfl, T1, L1⟩
  have Z1 := hid (Z.out.below L1)
  have Y1 : Hid (Blk w1 (w.heap.size + 1) (.cells #[.bool false] 4)) := by
    have := Y.out.below L1
    refine hid ?_
    simpa using this
  have B1 := hid (B.out.trans (L1.mono B.out.size))
  have T1' := hid T1
  clear ST RD T1 L1 Z Y B
  obtain ⟨z0, z1, z2, z3, z4, z5, z6, z7, z8, z9⟩ := Z1.out.ten
  have g0 := Z1.out.warm
  have y0 := Y1.out.one
  have g1 := Y1.out.warm
  have lt0 : w.heap.size < ((w.alloc zeroS).alloc (.cells #[.bool false] 4)).heap.size := by simp; omega
  have lt1 : w.heap.size + 1 < ((w.alloc zeroS).alloc (.cells #[.bool false] 4)).heap.size := by simp
  have ne0 : w.heap.size + 1 ≠ w.heap.size := by omega
  have ne1 : w.heap.size ≠ w.heap.size + 1 := by omega
  go_wp2
  refine leaves_cons (f := 49) (args := #[.pointer (some ⟨w.heap.size + 1, 0, none⟩)]) (by simp) (by simp [go_sem]) ?_
  have ZV := hid (((Z1.out.all10 (.int .i64 (nm 0 L)) (.int .i64 (nm 1 L)) (.int .i64 (nm 2 L)) (.int .i64 (nm 3 L)) (.int .i64 (nm 4 L)) (.string ⟨(rst 7 L).toArray⟩) (.int .i64 (rl 5 L).1) (.slice a1 (rl 5 L).2.1.length k1) (.int .i64 (rl 6 L).1) (.slice a2 (rl 6 L).2.1.length k2)).other (i := 0) ne0 (.bool true)).other (i := 0) ne0 (.bool true))
  have YV : Hid (Blk _ (w.heap.size + 1) (.cells #[.bool true] 4)) := hid ((Y1.out.other10 (Q := w.heap.size) ne1 (.int .i64 (nm 0 L)) (.int .i64 (nm 1 L)) (.int .i64 (nm 2 L)) (.int .i64 (nm 3 L)) (.int .i64 (nm 4 L)) (.string ⟨(rst 7 L).toArray⟩) (.int .i64 (rl 5 L).1) (.slice a1 (rl 5 L).2.1.length k1) (.int .i64 (rl 6 L).1) (.slice a2 (rl 6 L).2.1.length k2)).setAt (i := 0) (.bool true))
  have yc := YV.out.one
  have yf := YV.out.warm 0
  refine (catch_idle ⟨w.heap.size + 1, 0, none⟩ true _ yc yf).mono ?_
  rintro e u' w'' ⟨rfl, rfl, rfl⟩
  exact ⟨_, results27 _ _ w.heap.size (w.heap.size + 1) true _ _ _ _ _ _ _ _ _ _ ZV.out (YV.out.setAt (i := 0) (.bool true)) rfl rfl, a1, k1, a2, k2, rfl, ((((((((((((T1'.out.set lt0 _ _).set lt0 _ _).set lt0 _ _).set lt0 _ _).set lt0 _ _).set lt0 _ _).set lt0 _ _).set lt0 _ _).set lt0 _ _).set lt0 _ _).set lt1 _ _).set lt1 _ _).low (by simp; omega), (((((((((((B1.out.setCell (Nat.le_refl _) _).setCell (Nat.le_refl _) _).setCell (Nat.le_refl _) _).setCell (Nat.le_refl _) _).setCell (Nat.le_refl _) _).setCell (Nat.le_refl _) _).setCell (Nat.le_refl _) _).setCell (Nat.le_refl _) _).setCell (Nat.le_refl _) _).setCell (Nat.le_refl _) _).setCell (Nat.le_succ _) _).setCell (Nat.le_succ _) _⟩
set_option maxRecDepth 100000 in
set_option maxHeartbeats 4000000 in
theorem readBy_no (u : TypeId) (pv : Value) (L : List UInt8) (w : World) (hL : L.length ≤ 1048576) (hs : strictS L = false) (hE : Err u pv w) :
    Calls Tryd.prog 27 #[.string ⟨L.toArray⟩, .func (.func 28) #[] #[]] w fun e w' => e = .returned (.tuple #[.agg #[.int .i64 0, .int .i64 0, .int .i64 0, .int .i64 0, .int .i64 0, .string ⟨#[]⟩, .int .i64 0, .slice none 0 0, .int .i64 0, .slice none 0 0], .bool false]) ∧ Below w.heap.size w w' := by
  have hmf : ∀ (fn : Fn) (first cap : Array Value) (w : World), (Instr.makeFunc fn first cap).run Tryd.prog w = .ok (.func fn first cap) w := fun _ _ _ _ => rfl
  have Z := hid ((Blk.new w zeroS).alloc (.cells #[.bool false] 4))
  have Y := hid (Blk.new (w.alloc zeroS) (.cells #[.bool false] 4))
  have B := hid (((Below.refl _ w).alloc (Nat.le_refl _) zeroS).alloc (by simp) (.cells #[.bool false] 4))
  have RD : Hid (Reader ((w.alloc zeroS).alloc (.cells #[.bool false] 4)) (w.heap.size + 1 + 1) 0 L (((w.alloc zeroS).alloc (.cells #[.bool false] 4)).alloc (.cells #[.string ⟨L.toArray⟩] 87))) := by
    refine hid ⟨by simp, ?_, (Below.refl _ _).alloc (Nat.le_refl _) _⟩
    have := Blk.new ((w.alloc zeroS).alloc (.cells #[.bool false] 4)) (.cells #[.string ⟨L.toArray⟩] 87)
    simpa [rst] using this
  have ST := hid (step_no u pv _ _ L _ hL RD.out (hE.below B.out) hs)
  unfold gaveUp at ST
  have ne0 : w.heap.size + 1 ≠ w.heap.size := by omega
  go_enter_defers Tryd.func27, Tryd.ntmps27
  go_wp2_with fail
  refine ST.out.mono ?_
  rintro e w1 ⟨rfl, L1⟩
  have Z1 := hid (Z.out.below L1)
  have Y1 : Hid (Blk w1 (w.heap.size + 1) (.cells #[.bool false] 4)) := by
    have := Y.out.below L1
    refine hid ?_
    simpa using this
  have B1 := hid (B.out.trans (L1.mono B.out.size))
  clear ST RD L1 Z Y B
  have yc := Y1.out.one
  have yf := Y1.out.warm 0
  go_wp2
  refine leaves_cons (f := 49) (args := #[.pointer (some ⟨w.heap.size + 1, 0, none⟩)]) (by simp) (by simp [go_sem]) ?_
  refine (catch_panicking ⟨w.heap.size + 1, 0, none⟩ false u pv [] _ yc yf).mono ?_
  rintro e u' w'' ⟨rfl, rfl, rfl⟩
  exact ⟨_, results27 _ _ w.heap.size (w.heap.size + 1) false _ _ _ _ _ _ _ _ _ _ (Z1.out.other (i := 0) ne0 (.bool false)) (Y1.out.setAt (i := 0) (.bool false)) rfl rfl, rfl, B1.out.setCell (Nat.le_succ _) _⟩

set_option maxRecDepth 100000 in
theorem results11 (tmps : Array Value) (W : World) (P : Nat) (b : Bool) (x0 x1 x2 x3 x4 x5 x6 x7 x8 x9 : Value) (h : Blk W P (.cells #[x0, x1, x2, x3, x4, x5, x6, x7, x8, x9] 33)) (h2 : tmps[2]? = some (.pointer (some ⟨P, 0, none⟩))) (h3 : tmps[3]? = some (.bool b)) :
    (results Tryd.f11 tmps).run Tryd.prog W = .ok (.tuple #[.agg #[x0, x1, x2, x3, x4, x5, x6, x7, x8, x9], .bool b]) W := by
  obtain ⟨z0, z1, z2, z3, z4, z5, z6, z7, z8, z9⟩ := h.ten
  simp [results, Tryd.results11, go_sem, h2, h3, z0, z1, z2, z3, z4, z5, z6, z7, z8, z9]
/-- what ReadStep of the program hands back: its lists are new, and two -/
def IPost (r : StepR) (w : World) (e : Ending) (w' : World) : Prop :=
  ∃ a1 k1 a2 k2, e = .returned (r.val a1 k1 a2 k2) ∧ Two w w' (.slice a1 r.l1.length k1) (.slice a2 r.l2.length k2) r.l1 r.l2 ∧ Below w.heap.size w w'
theorem IPost.no {r : StepR} {w w' : World} (hr : r = noS) (hb : Below w.heap.size w w') : IPost r w (.returned (.tuple #[.agg #[.int .i64 0, .int .i64 0, .int .i64 0, .int .i64 0, .int .i64 0, .string ⟨#[]⟩, .int .i64 0, .slice none 0 0, .int .i64 0, .slice none 0 0], .bool false])) w' := by
  subst hr
  exact ⟨none, 0, none, 0, rfl, ⟨w.heap.size, w.heap.size, Nat.le_refl _, Nat.le_refl _, (fun j hj => by cases hj), OwnList.nil _ _, OwnList.nil _ _⟩, hb⟩
theorem IPost.yes {L : List UInt8} {r : StepR} {w w' : World} {a1 a2 : Option Addr} {k1 k2 : Nat} (hr : r = yesS L) (h : Two w w' (.slice a1 (rl 5 L).2.1.length k1) (.slice a2 (rl 6 L).2.1.length k2) (rl 5 L).2.1 (rl 6 L).2.1) (hb : Below w.heap.size w w') : IPost r w (.returned (.tuple #[.agg #[.int .i64 (nm 0 L), .int .i64 (nm 1 L), .int .i64 (nm 2 L), .int .i64 (nm 3 L), .int .i64 (nm 4 L), .string ⟨(rst 7 L).toArray⟩, .int .i64 (rl 5 L).1, .slice a1 (rl 5 L).2.1.length k1, .int .i64 (rl 6 L).1, .slice a2 (rl 6 L).2.1.length k2], .bool true])) w' := by
  subst hr
  refine ⟨a1, k1, a2, k2, ?_, ?_, hb⟩
  · simp only [yesS, StepR.val]
  · simp only [yesS]; exact h
set_option maxRecDepth 100000 in
set_option maxHeartbeats 4000000 in
theorem implReadStep_any (u : TypeId) (pv : Value) (L : List UInt8) (w : World) (hL : L.length ≤ 1048576) (hE : Err u pv w) :
    Calls Tryd.prog 11 #[.string ⟨L.toArray⟩] w (IPost (readS L) w) := by
  have Z := hid (Blk.new w zeroS)
  have B := hid ((Below.refl _ w).alloc (Nat.le_refl _) zeroS)
  have lt0 : w.heap.size < (w.alloc zeroS).heap.size := by simp
  cases hs : strictS L with
  | true =>
    have er : Hid (readS L = yesS L) := by show _ = _; rw [readS, if_pos hs]
    have ST := hid (readBy_yes L (w.alloc zeroS) hL hs)
    clear hs
    go_enter Tryd.func11, Tryd.ntmps11
    go_wp2_with fail
    refine ST.out.mono ?_
    rintro e w1 ⟨a1, k1, a2, k2, rfl, T1, L1⟩
    have Z1 := hid (Z.out.below L1)
    have B1 := hid (then_ B.out L1)
    have T1' := hid T1
    clear ST T1 L1 Z B
    obtain ⟨z0, z1, z2, z3, z4, z5, z6, z7, z8, z9⟩ := Z1.out.ten
    have g0 := Z1.out.warm
    go_wp2
    refine bodyPost_ret (results11 _ _ w.heap.size true (.int .i64 (nm 0 L)) (.int .i64 (nm 1 L)) (.int .i64 (nm 2 L)) (.int .i64 (nm 3 L)) (.int .i64 (nm 4 L)) (.string ⟨(rst 7 L).toArray⟩) (.int .i64 (rl 5 L).1) (.slice a1 (rl 5 L).2.1.length k1) (.int .i64 (rl 6 L).1) (.slice a2 (rl 6 L).2.1.length k2) (Z1.out.all10 _ _ _ _ _ _ _ _ _ _) rfl rfl) rfl (IPost.yes er.out ?_ ?_)
    · exact (((((((((((T1'.out.set lt0 _ _).set lt0 _ _).set lt0 _ _).set lt0 _ _).set lt0 _ _).set lt0 _ _).set lt0 _ _).set lt0 _ _).set lt0 _ _).set lt0 _ _)).low (by simp)
    · exact ((((((((((B1.out.setCell (Nat.le_refl _) _).setCell (Nat.le_refl _) _).setCell (Nat.le_refl _) _).setCell (Nat.le_refl _) _).setCell (Nat.le_refl _) _).setCell (Nat.le_refl _) _).setCell (Nat.le_refl _) _).setCell (Nat.le_refl _) _).setCell (Nat.le_refl _) _).setCell (Nat.le_refl _) _)
  | false =>
    have er : Hid (readS L = noS) := by show _ = _; rw [readS, if_neg (by rw [hs]; decide)]
    have ST := hid (readBy_no u pv L (w.alloc zeroS) hL hs (hE.below B.out))
    clear hs
    go_enter Tryd.func11, Tryd.ntmps11
    go_wp2_with fail
    refine ST.out.mono ?_
    rintro e w1 ⟨rfl, L1⟩
    have Z1 := hid (Z.out.below L1)
    have B1 := hid (then_ B.out L1)
    clear ST L1 Z B
    obtain ⟨z0, z1, z2, z3, z4, z5, z6, z7, z8, z9⟩ := Z1.out.ten
    have g0 := Z1.out.warm
    go_wp2
    refine bodyPost_ret (results11 _ _ w.heap.size false (.int .i64 0) (.int .i64 0) (.int .i64 0) (.int .i64 0) (.int .i64 0) (.string ⟨#[]⟩) (.int .i64 0) (.slice none 0 0) (.int .i64 0) (.slice none 0 0) (Z1.out.all10 _ _ _ _ _ _ _ _ _ _) rfl rfl) rfl (IPost.no er.out ?_)
    exact ((((((((((B1.out.setCell (Nat.le_refl _) _).setCell (Nat.le_refl _) _).setCell (Nat.le_refl _) _).setCell (Nat.le_refl _) _).setCell (Nat.le_refl _) _).setCell (Nat.le_refl _) _).setCell (Nat.le_refl _) _).setCell (Nat.le_refl _) _).setCell (Nat.le_refl _) _).setCell (Nat.le_refl _) _)
end Go.Proofs.YtcpphobokdkkeaaDoor
