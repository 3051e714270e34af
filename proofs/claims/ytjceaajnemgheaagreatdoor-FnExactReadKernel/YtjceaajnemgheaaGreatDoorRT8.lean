/- ReadKernel of the program: giving up ends in readBy. -/
import Derived.Test.YtjceaajnemgheaaGreatDoorRT7
import Derived.Laws.Pointers
namespace Go.Proofs.YtjceaajnemgheaaGreatDoor
open Go Go.RowKit Go.Deep Go.Maps

theorem catch_panicking (p : Addr) (b : Bool) (u : TypeId) (pv : Value) (older : List PanicEntry) (w : World) (hc : w.cell? p = some (.bool b)) (hz : w.frozen? p = false) :
    CallsD Tryz.prog 28 #[.pointer (some p)] (.panicking ({ v := .iface u pv, recovered := false } :: older)) w fun e u' w' =>
      e = .returned (.tuple #[]) ∧ u' = .panicking ({ v := .iface u pv, recovered := true } :: older) ∧ w' = w.setCell p (.bool false) := by
  refine callsD_of_wpS Tryz.func28 rfl fun c₀ cs hu => ?_
  apply wpS_region
  simp [wpOpsS, go_sem, recoverD, hu, Tryz.ntmps28, hc, hz, bodyPostS, results, Tryz.results28]
theorem catch_idle (p : Addr) (b : Bool) (w : World) (hc : w.cell? p = some (.bool b)) (hz : w.frozen? p = false) :
    CallsD Tryz.prog 28 #[.pointer (some p)] .returning w fun e u' w' => e = .returned (.tuple #[]) ∧ u' = .returning ∧ w' = w.setCell p (.bool true) := by
  refine callsD_of_wpS Tryz.func28 rfl fun c₀ cs hu => ?_
  apply wpS_region
  simp [wpOpsS, go_sem, recoverD, hu, Tryz.ntmps28, hc, hz, bodyPostS, results, Tryz.results28]
  cases c₀
  simp_all
theorem results14 (tmps : Array Value) (W : World) (P Q : Nat) (b : Bool) (x y : Value) (h : Blk W P (.cells #[x, y] 25)) (hq : Blk W Q (.cells #[.bool b] 4)) (h2 : tmps[4]? = some (.pointer (some ⟨P, 0, none⟩))) (h3 : tmps[5]? = some (.pointer (some ⟨Q, 0, none⟩))) :
    (results Tryz.f14 tmps).run Tryz.prog W = .ok (.tuple #[.agg #[x, y], .bool b]) W := by
  obtain ⟨z0, z1⟩ := h.two
  have y := hq.one
  simp [results, Tryz.results14, go_sem, h2, h3, z0, z1, y]
theorem KSt.setB {w : World} {B P i : Nat} {vt vo : Value} {lt : List ThrV} {lo : List ObjV} {cs : Array Value} (h : KSt w B vt vo lt lo) (hb : Blk w P (.cells cs 4)) (u : Value) : KSt (w.setCell ⟨P, i, none⟩ u) B vt vo lt lo := by
  have k := keeps_set (i := i) hb (by decide) u
  exact ⟨h.t.set hb (by decide) u, h.o.set hb (by decide) u, fun x hx => (h.tn x hx).keeps k, fun x hx => (h.on x hx).keeps k, h.tc, h.oc⟩
def IKPost (r : Option (List TD × List OD)) (w : World) (e : Ending) (w' : World) : Prop := match r with
  | none => e = .returned (.tuple #[.agg #[.slice none 0 0, .slice none 0 0], .bool false]) ∧ Below w.heap.size w w'
  | some p => ∃ (ta oa : Option Addr) (ca co : Nat) (lt : List ThrV) (lo : List ObjV), e = .returned (.tuple #[.agg #[.slice ta lt.length ca, .slice oa lo.length co], .bool true]) ∧ KSt w' w.heap.size (.slice ta lt.length ca) (.slice oa lo.length co) lt lo ∧ Apart lt lo ∧ (∀ x ∈ lo, x.data.size ≤ maxLen) ∧ lt.length ≤ 1048576 ∧ lo.length ≤ 1048576 ∧ (kerD p.1 p.2).same (kOf ta ca oa co lt lo) ∧ Below w.heap.size w w'
def zKe : Obj := .cells #[.slice none 0 0, .slice none 0 0] 25
theorem KNew.dats {W w' : World} {ts : List TD} {os : List OD} {ta oa : Option Addr} {ca co : Nat} {lt : List ThrV} {lo : List ObjV} (h : KNew W w' ts os ta oa ca co lt lo) : ∀ x ∈ lo, x.data.size ≤ maxLen := fun x hx => by
  obtain ⟨i, hi, rfl⟩ := List.getElem_of_mem hx
  obtain ⟨b, off, e, _, hc⟩ := h.at'.2.2.2 (show 0 < lo.length from by omega)
  have := (hc i hi).2.2.2.2.2
  have e2 : (kOf ta ca oa co lt lo).O i = lo[i] := atO_get hi
  rw [e2] at this
  exact this
set_option maxRecDepth 100000 in
set_option maxHeartbeats 4000000 in
theorem readBy_any (u : TypeId) (pv : Value) (L : List UInt8) (w : World) (hL : L.length ≤ 500000) (hE : Err u pv w) :
    Calls Tryz.prog 14 #[.string (bytesOf L), .func (.func 15) #[] #[]] w fun e w' => IKPost (strK L) w e w' := by
  have hmf : ∀ (fn : Fn) (first cap : Array Value) (w : World), (Instr.makeFunc fn first cap).run Tryz.prog w = .ok (.func fn first cap) w := fun _ _ _ _ => rfl
  have Z := hid (((Blk.new w zKe).alloc (.cells #[.bool false] 4)).alloc (.cells #[.string (bytesOf L)] 64))
  have Y := hid ((Blk.new (w.alloc zKe) (.cells #[.bool false] 4)).alloc (.cells #[.string (bytesOf L)] 64))
  have B := hid ((((Below.refl _ w).alloc (Nat.le_refl _) zKe).alloc (by simp) (.cells #[.bool false] 4)).alloc (by simp; omega) (.cells #[.string (bytesOf L)] 64))
  have RD : Hid (Rdr (((w.alloc zKe).alloc (.cells #[.bool false] 4)).alloc (.cells #[.string (bytesOf L)] 64)) (w.heap.size + 1 + 1) L) := hid (by
    have := Blk.new ((w.alloc zKe).alloc (.cells #[.bool false] 4)) (.cells #[.string (bytesOf L)] 64)
    unfold Rdr
    simpa using this)
  have ST := hid (kernel_any u pv _ L _ hL RD.out (hE.below B.out) (by omega))
  have ne0 : w.heap.size + 1 ≠ w.heap.size := by omega
  have ne1 : w.heap.size ≠ w.heap.size + 1 := by omega
  have sz : (((w.alloc zKe).alloc (.cells #[.bool false] 4)).alloc (.cells #[.string (bytesOf L)] 64)).heap.size = w.heap.size + 3 := by simp
  unfold zKe at *
  go_enter_defers Tryz.func14, Tryz.ntmps14
  go_wp2_with fail
  refine ST.out.mono ?_
  rintro e w1 (⟨ts, os, ta, oa, ca, co, lt, lo, er, rfl, hK, hG⟩ | ⟨er, rfl, hG⟩)
  · have Z1 := hid (Z.out.grown hG (fun e => by have := Option.some.inj e; omega))
    have Y1 : Hid (Blk w1 (w.heap.size + 1) (.cells #[.bool false] 4)) := hid (by
      have := Y.out.grown hG (fun e => by have := Option.some.inj e; simp at this)
      simpa using this)
    have B1 := hid (B.out.trans (below_grown hG (by rw [sz]; omega) (fun j e => by have := Option.some.inj e; omega)))
    have HK := hid hK
    have ER := hid er
    clear ST RD Z Y B hK hG er
    obtain ⟨z0, z1⟩ := Z1.out.two
    have g0 := Z1.out.warm
    have y0 := Y1.out.one
    have g1 := Y1.out.warm
    go_wp2
    refine leaves_cons (f := 28) (args := #[.pointer (some ⟨w.heap.size + 1, 0, none⟩)]) (by simp) (by simp [go_sem]) ?_
    have Z2 := hid ((Z1.out.setAt (i := 0) (.slice ta lt.length ca)).setAt (i := 1) (.slice oa lo.length co))
    have Y2 := hid ((Y1.out.other (i := 0) ne1 (.slice ta lt.length ca)).other (i := 1) ne1 (.slice oa lo.length co))
    have K2 := hid ((HK.out.st.setK (i := 0) Z1.out (.slice ta lt.length ca)).setK (i := 1) (Z1.out.setAt (i := 0) (.slice ta lt.length ca)) (.slice oa lo.length co))
    have ZV := hid ((Z2.out.other (i := 0) ne0 (.bool true)).other (i := 0) ne0 (.bool true))
    have YV : Hid (Blk _ (w.heap.size + 1) (.cells #[.bool true] 4)) := hid (Y2.out.setAt (i := 0) (.bool true))
    have KV := hid ((K2.out.setB (i := 0) Y2.out (.bool true)).setB (i := 0) YV.out (.bool true))
    have yc := YV.out.one
    have yf := YV.out.warm 0
    refine (catch_idle ⟨w.heap.size + 1, 0, none⟩ true _ yc yf).mono ?_
    rintro e u' w'' ⟨rfl, rfl, rfl⟩
    refine ⟨_, results14 _ _ w.heap.size (w.heap.size + 1) true _ _ ZV.out (YV.out.setAt (i := 0) (.bool true)) rfl rfl, ?_⟩
    show IKPost (strK L) w _ _
    rw [ER.out]
    exact ⟨ta, oa, ca, co, lt, lo, rfl, KV.out.base (by rw [sz]; omega), HK.out.ap, HK.out.dats, HK.out.ln.1, HK.out.ln.2, HK.out.same, (((B1.out.setCell (Nat.le_refl _) _).setCell (Nat.le_refl _) _).setCell (Nat.le_succ _) _).setCell (Nat.le_succ _) _⟩
  · have Z1 := hid (Z.out.grown hG (fun e => by have := Option.some.inj e; omega))
    have Y1 : Hid (Blk w1 (w.heap.size + 1) (.cells #[.bool false] 4)) := hid (by
      have := Y.out.grown hG (fun e => by have := Option.some.inj e; simp at this)
      simpa using this)
    have B1 := hid (B.out.trans (below_grown hG (by rw [sz]; omega) (fun j e => by have := Option.some.inj e; omega)))
    have ER := hid er
    clear ST RD Z Y B hG er
    have yc := Y1.out.one
    have yf := Y1.out.warm 0
    unfold gaveUp
    go_wp2
    refine leaves_cons (f := 28) (args := #[.pointer (some ⟨w.heap.size + 1, 0, none⟩)]) (by simp) (by simp [go_sem]) ?_
    refine (catch_panicking ⟨w.heap.size + 1, 0, none⟩ false u pv [] _ yc yf).mono ?_
    rintro e u' w'' ⟨rfl, rfl, rfl⟩
    refine ⟨_, results14 _ _ w.heap.size (w.heap.size + 1) false _ _ (Z1.out.other (i := 0) ne0 (.bool false)) (Y1.out.setAt (i := 0) (.bool false)) rfl rfl, ?_⟩
    show IKPost (strK L) w _ _
    rw [ER.out]
    exact ⟨rfl, B1.out.setCell (Nat.le_succ _) _⟩
theorem results5 (tmps : Array Value) (W : World) (P : Nat) (b : Bool) (x y : Value) (h : Blk W P (.cells #[x, y] 25)) (h2 : tmps[2]? = some (.pointer (some ⟨P, 0, none⟩))) (h3 : tmps[3]? = some (.bool b)) :
    (results Tryz.f5 tmps).run Tryz.prog W = .ok (.tuple #[.agg #[x, y], .bool b]) W := by
  obtain ⟨z0, z1⟩ := h.two
  simp [results, Tryz.results5, go_sem, h2, h3, z0, z1]
def ansK (L : List UInt8) : Option (List TD × List OD) := if L.length ≤ 500000 then strK L else none
set_option maxRecDepth 100000 in
set_option maxHeartbeats 4000000 in
theorem implReadKernel_any (u : TypeId) (pv : Value) (L : List UInt8) (w : World) (hE : Err u pv w) (hl : L.length ≤ 1048576) :
    Calls Tryz.prog 5 #[.string (bytesOf L)] w fun e w' => IKPost (ansK L) w e w' := by
  have b0 := (Below.refl _ w).alloc (Nat.le_refl _) zKe
  have Z := hid (Blk.new w zKe)
  have B := hid b0
  have E0 := hid (hE.below b0)
  have s1 := bytesOf_size L
  clear hE b0
  unfold zKe at *
  by_cases hL : L.length ≤ 500000
  · have er : Hid (ansK L = strK L) := hid (by unfold ansK; rw [if_pos hL])
    have i5 : ¬ (500000 : Int) < ((bytesOf L).size : Int) := by rw [s1]; omega
    have ST := hid (readBy_any u pv L _ hL E0.out)
    clear s1
    go_enter Tryz.func5, Tryz.ntmps5
    go_wp2_with fail
    refine ST.out.mono ?_
    cases hr : strK L with
    | none =>
      rintro e w1 ⟨rfl, hb⟩
      have Z1 := hid (Z.out.below hb)
      have B1 := hid (then_ B.out hb)
      have ER := hid (er.out.trans hr)
      clear ST Z B E0 hb hr er
      obtain ⟨z0, z1⟩ := Z1.out.two
      have g0 := Z1.out.warm
      go_wp2
      refine bodyPost_ret (results5 _ _ w.heap.size false (.slice none 0 0) (.slice none 0 0) ((Z1.out.setAt (i := 0) _).setAt (i := 1) _) rfl rfl) rfl ?_
      show IKPost (ansK L) w _ _
      rw [ER.out]
      exact ⟨rfl, (B1.out.setCell (Nat.le_refl _) _).setCell (Nat.le_refl _) _⟩
    | some p =>
      rintro e w1 ⟨ta, oa, ca, co, lt, lo, rfl, hK, hA, hD, n1, n2, hS, hb⟩
      have Z1 := hid (Z.out.below hb)
      have B1 := hid (then_ B.out hb)
      have ER := hid (er.out.trans hr)
      have HK := hid hK
      clear ST Z B E0 hb hr er hK
      obtain ⟨z0, z1⟩ := Z1.out.two
      have g0 := Z1.out.warm
      have K2 := hid ((HK.out.setK (i := 0) Z1.out (.slice ta lt.length ca)).setK (i := 1) (Z1.out.setAt (i := 0) (.slice ta lt.length ca)) (.slice oa lo.length co))
      have Z2 := hid ((Z1.out.setAt (i := 0) (.slice ta lt.length ca)).setAt (i := 1) (.slice oa lo.length co))
      go_wp2
      refine bodyPost_ret (results5 _ _ w.heap.size true (.slice ta lt.length ca) (.slice oa lo.length co) Z2.out rfl rfl) rfl ?_
      show IKPost (ansK L) w _ _
      rw [ER.out]
      exact ⟨ta, oa, ca, co, lt, lo, rfl, K2.out.base (by simp), hA, hD, n1, n2, hS, (B1.out.setCell (Nat.le_refl _) _).setCell (Nat.le_refl _) _⟩
  · have er : Hid (ansK L = none) := hid (by unfold ansK; rw [if_neg hL])
    have i5 : (500000 : Int) < ((bytesOf L).size : Int) := by rw [s1]; omega
    have zz := Z.out
    obtain ⟨z0, z1⟩ := zz.two
    have g0 := zz.warm
    clear s1
    go_enter Tryz.func5, Tryz.ntmps5
    go_wp2
    refine bodyPost_ret (results5 _ _ w.heap.size false (.slice none 0 0) (.slice none 0 0) Z.out rfl rfl) rfl ?_
    show IKPost (ansK L) w _ _
    rw [er.out]
    exact ⟨rfl, B.out⟩
end Go.Proofs.YtjceaajnemgheaaGreatDoor
