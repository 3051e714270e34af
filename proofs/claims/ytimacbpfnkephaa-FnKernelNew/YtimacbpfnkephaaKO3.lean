/- ObjectOf of the program and of the model. -/
import Derived.Test.YtimacbpfnkephaaKO1
import Derived.Test.YtimacbpfnkephaaKU1
namespace Go.Proofs.Ytimacbpfnkephaa
open Go Go.RowKit Go.Deep Go.Maps

def zeroO : ObjV := ⟨0, 0, 0, 0, ⟨none, 0, 0, fun _ => 0, fun _ => 0⟩, ByteArray.mk #[], ⟨none, 0, 0, fun _ => ByteArray.mk #[]⟩, ⟨none, 0, 0, fun _ => 0⟩, 0, ⟨none, 0, 0, fun _ => 0, fun _ => 0⟩⟩
theorem zeroO_new (B : Nat) (w : World) : zeroO.new B w := ⟨⟨⟨Nat.zero_le _, fun h => by simp [zeroO] at h⟩, fun h => by simp [zeroO] at h⟩, ⟨⟨Nat.zero_le _, fun h => by simp [zeroO] at h, fun i h => by simp [zeroO] at h⟩, fun h => by simp [zeroO] at h⟩, ⟨⟨Nat.zero_le _, fun h => by simp [zeroO] at h⟩, fun h => by simp [zeroO] at h⟩, ⟨⟨Nat.zero_le _, fun h => by simp [zeroO] at h⟩, fun h => by simp [zeroO] at h⟩⟩
theorem zeroO_apart : zeroO.apart := fun _ _ _ h => by simp [zeroO] at h
theorem ObjV.same.refl (t : ObjV) : t.same t := ⟨rfl, rfl, rfl, rfl, ⟨rfl, rfl, rfl⟩, rfl, ⟨rfl, rfl⟩, ⟨rfl, rfl⟩, rfl, ⟨rfl, rfl, rfl⟩⟩
/-- where the object x of a right kernel stands -/
def objL (k : KerV) (x : Int) : Option Nat := if kerOk k = true then findI (fun i => (k.O i).id) k.on x else none
def theO (k : KerV) (x : Int) : ObjV := match objL k x with
  | some i => k.O i
  | none => zeroO
theorem ObjV.new.below {B : Nat} {w w' : World} {t : ObjV} (h : t.new B w) (hb : Below w.heap.size w w') : t.new B w' := ⟨h.1.below hb, h.2.1.below hb, h.2.2.1.below hb, h.2.2.2.below hb⟩
theorem ObjV.new.low {B B' : Nat} {w : World} {t : ObjV} (h : t.new B w) (hB : B' ≤ B) : t.new B' w := ⟨h.1.low hB, h.2.1.low hB, h.2.2.1.low hB, h.2.2.2.low hB⟩
theorem results14 (tmps : Array Value) (W : World) (P : Nat) (x0 x1 x2 x3 x4 x5 x6 x7 x8 x9 : Value) (b : Bool) (h : Blk W P (.cells #[x0, x1, x2, x3, x4, x5, x6, x7, x8, x9] 37)) (h2 : tmps[4]? = some (.pointer (some ⟨P, 0, none⟩))) (h3 : tmps[5]? = some (.bool b)) :
    (results Try.f8 tmps).run Try.prog W = .ok (.tuple #[.agg #[x0, x1, x2, x3, x4, x5, x6, x7, x8, x9], .bool b]) W := by
  obtain ⟨z0, z1, z2, z3, z4, z5, z6, z7, z8, z9⟩ := h.ten
  simp [results, Try.results8, go_sem, h2, h3, z0, z1, z2, z3, z4, z5, z6, z7, z8, z9]
/-- what ObjectOf answers -/
def ObjAns (k : KerV) (x : Int) (w w' : World) (e : Ending) : Prop := ∃ g : ObjV, e = .returned (.tuple #[g.val, .bool (objL k x).isSome]) ∧ (theO k x).same g ∧ g.new w.heap.size w' ∧ g.apart ∧ Below w.heap.size w w'
theorem ObjAns.none {k : KerV} {x : Int} {w w' : World} (h : objL k x = .none) (hb : Below w.heap.size w w') : ObjAns k x w w' (.returned (.tuple #[.agg #[.int .i64 0, .int .i64 0, .int .i64 0, .int .i64 0, .slice .none 0 0, .string (ByteArray.mk #[]), .slice .none 0 0, .slice .none 0 0, .int .i64 0, .slice .none 0 0], .bool false])) :=
  ⟨zeroO, by rw [h]; rfl, by rw [theO, h]; exact ObjV.same.refl _, zeroO_new _ _, zeroO_apart, hb⟩
/-- what ObjectOf answers -/
def ObjAnsS (k : KerV) (x : Int) (w w' : World) (e : Ending) : Prop := ∃ g : ObjV, e = .returned (.tuple #[g.val, .bool (objL k x).isSome]) ∧ (theO k x).same g ∧ g.new w.heap.size w' ∧ Below w.heap.size w w'
theorem ObjAnsS.none {k : KerV} {x : Int} {w w' : World} (h : objL k x = .none) (hb : Below w.heap.size w w') : ObjAnsS k x w w' (.returned (.tuple #[.agg #[.int .i64 0, .int .i64 0, .int .i64 0, .int .i64 0, .slice .none 0 0, .string (ByteArray.mk #[]), .slice .none 0 0, .slice .none 0 0, .int .i64 0, .slice .none 0 0], .bool false])) :=
  ⟨zeroO, by rw [h]; rfl, by rw [theO, h]; exact ObjV.same.refl _, zeroO_new _ _, hb⟩

set_option maxRecDepth 100000 in
set_option maxHeartbeats 8000000 in
theorem implObjectOf_any (k : KerV) (x : Int) (w : World) (hk : k.at w) (hs : k.small) (hcap : k.on ≤ k.ok) (hw : ∀ i, i < k.on → (Lit.int .i64 (k.O i).id).wf = true ∧ (Lit.int .i64 (k.O i).up).wf = true) (hx : (Lit.int .i64 x).wf = true) :
    Calls Try.prog 8 #[k.val, .int .i64 x] w fun e w' => ObjAns k x w w' e := by
  have b0 : Below w.heap.size w ((w.alloc (.cells #[.slice k.ta k.tn k.tk, .slice k.oa k.on k.ok] 28)).alloc (.cells #[.int .i64 0, .int .i64 0, .int .i64 0, .int .i64 0, .slice none 0 0, .string (ByteArray.mk #[]), .slice none 0 0, .slice none 0 0, .int .i64 0, .slice none 0 0] 37)) := ((Below.refl _ w).alloc (Nat.le_refl _) _).alloc (by simp) _
  have A0 := (Blk.new w (.cells #[.slice k.ta k.tn k.tk, .slice k.oa k.on k.ok] 28)).alloc (.cells #[.int .i64 0, .int .i64 0, .int .i64 0, .int .i64 0, .slice none 0 0, .string (ByteArray.mk #[]), .slice none 0 0, .slice none 0 0, .int .i64 0, .slice none 0 0] 37)
  have R0 : Blk ((w.alloc (.cells #[.slice k.ta k.tn k.tk, .slice k.oa k.on k.ok] 28)).alloc (.cells #[.int .i64 0, .int .i64 0, .int .i64 0, .int .i64 0, .slice none 0 0, .string (ByteArray.mk #[]), .slice none 0 0, .slice none 0 0, .int .i64 0, .slice none 0 0] 37)) (w.heap.size + 1) (.cells #[.int .i64 0, .int .i64 0, .int .i64 0, .int .i64 0, .slice none 0 0, .string (ByteArray.mk #[]), .slice none 0 0, .slice none 0 0, .int .i64 0, .slice none 0 0] 37) := by
    have := Blk.new (w.alloc (.cells #[.slice k.ta k.tn k.tk, .slice k.oa k.on k.ok] 28)) (.cells #[.int .i64 0, .int .i64 0, .int .i64 0, .int .i64 0, .slice none 0 0, .string (ByteArray.mk #[]), .slice none 0 0, .slice none 0 0, .int .i64 0, .slice none 0 0] 37)
    simpa using this
  have HK := hid hk
  have HS := hid hs
  have HW := hid hw
  have HX := hid hx
  have C1 := hid (implKer_any k _ (hk.below b0) hcap hw)
  unfold KerV.val at C1
  unfold KerV.val
  obtain ⟨x0, x1⟩ := A0.two
  have ne1 : ¬ w.heap.size = w.heap.size + 1 := by omega
  have ne2 : ¬ w.heap.size + 1 = w.heap.size := by omega
  clear hk hs hw hx
  go_enter Try.func8, Try.ntmps8
  go_wp2_with fail
  refine C1.out.mono ?_
  rintro e w1 ⟨rfl, hb1⟩
  have A1 := A0.below hb1
  have R1 := R0.below hb1
  have B1 := then_ b0 hb1
  clear x0 x1 C1 A0 R0 b0 hb1
  obtain ⟨x0, x1⟩ := A1.two
  obtain ⟨r0, r1, r2, r3, r4, r5, r6, r7, r8, r9⟩ := R1.ten
  have rf := R1.warm
  cases t : kerOk k with
  | false =>
    have N := hid (show objL k x = none by simp [objL, t])
    go_wp2
    refine bodyPost_ret (results14 _ _ (w.heap.size + 1) _ _ _ _ _ _ _ _ _ _ false (Blk.all10 R1 _ _ _ _ _ _ _ _ _ _) rfl rfl) rfl (ObjAns.none N.out ?_)
    iterate 10 refine Below.setCell ?_ (by dsimp only; omega) _
    exact B1
  | true =>
    have ho := (kerOk_parts t).2.1
    obtain ⟨on1, on2, _, _⟩ := objsOk_out ho
    obtain ⟨ob, off, eoa, _, _⟩ := HK.out.2.2.2 (by omega)
    have TL : Hid (objL k x = findI (fun i => (k.O i).id) k.on x) := hid (by rw [objL, if_pos t])
    have C2 := hid (nodesOf_any ob off k.on k.ok k.O w1 on2 (by rw [← eoa]; exact (HK.out.below B1).2.2.2) (objsOk_rises ho) HW.out)
    rw [eoa] at x1
    have EOA := hid eoa
    clear eoa t ho
    go_wp2_with fail
    refine C2.out.mono ?_
    rintro e w2 ⟨c, nb, kv, rfl, hN, hb2⟩
    have HN := hid hN
    have R2 := R1.below hb2
    have B2 := then_ B1 hb2
    have LK := hN.map.look HX.out
    clear hN C2 x0 x1 r0 r1 r2 r3 r4 r5 r6 r7 r8 r9 rf R1
    obtain ⟨r0, r1, r2, r3, r4, r5, r6, r7, r8, r9⟩ := R2.ten
    have rf := R2.warm
    cases hf : findI (fun i => (k.O i).id) k.on x with
    | none =>
      rw [hf] at LK TL
      simp only [Option.map_none] at LK
      clear hf
      go_wp2
      refine bodyPost_ret (results14 _ _ (w.heap.size + 1) _ _ _ _ _ _ _ _ _ _ false (Blk.all10 R2 _ _ _ _ _ _ _ _ _ _) rfl rfl) rfl (ObjAns.none TL.out ?_)
      iterate 10 refine Below.setCell ?_ (by dsimp only; omega) _
      exact B2
    | some u =>
      have hu := (findI_some hf).1
      rw [hf] at LK TL
      simp only [Option.map_some] at LK
      have y0 : _ = some (Value.pointer (some ⟨ob, off + u * 10, none⟩)) := (HN.out.blk u hu).c0 0 rfl
      obtain ⟨b', off', ea, _, hcc⟩ := (HK.out.below B2).2.2.2 (by omega)
      have ee := EOA.out.symm.trans ea
      cases ee
      obtain ⟨⟨q0, q1, q2, q3, q4, q5, q6, q7, q8, q9⟩, ht⟩ := hcc u hu
      have C3 := hid (copiedObject_any (k.O u) w2 ht (HS.out.2.2 u hu))
      unfold ObjV.val at C3
      clear hf hcc ht ea EOA
      go_wp2_with fail
      refine C3.out.mono ?_
      rintro e w3 ⟨g, rfl, sg, ng, ag, hb3⟩
      have R3 := R2.below hb3
      have B3 := then_ B2 hb3
      have NG := hid (ng.low B2.size)
      have SG := hid sg
      have AG := hid ag
      clear r0 r1 r2 r3 r4 r5 r6 r7 r8 r9 rf C3 R2 B2 hb3 q0 q1 q2 q3 q4 q5 q6 q7 q8 q9 sg ng ag y0 LK
      obtain ⟨r0, r1, r2, r3, r4, r5, r6, r7, r8, r9⟩ := R3.ten
      have rf := R3.warm
      unfold CatL.val IntL.val StrL.val
      go_wp2
      refine bodyPost_ret (results14 _ _ (w.heap.size + 1) _ _ _ _ _ _ _ _ _ _ true (Blk.all10 R3 _ _ _ _ _ _ _ _ _ _) rfl rfl) rfl ⟨g, by rw [TL.out]; rfl, by rw [theO, TL.out]; exact SG.out, ⟨?_, ?_, ?_, ?_⟩, AG.out, ?_⟩
      · refine NG.out.1.of (by simp) (fun q hq hn' => ?_)
        have q2 := NG.out.1.ne R3 (by decide) q hq hn'
        iterate 10 rw [blk_setCell_other _ _ _ _ (by dsimp only; omega)]
      · refine NG.out.2.1.of (by simp) (fun q hq hn' => ?_)
        have q2 := NG.out.2.1.ne R3 (by decide) q hq hn'
        iterate 10 rw [blk_setCell_other _ _ _ _ (by dsimp only; omega)]
      · refine NG.out.2.2.1.of (by simp) (fun q hq hn' => ?_)
        have q2 := NG.out.2.2.1.ne R3 (by decide) q hq hn'
        iterate 10 rw [blk_setCell_other _ _ _ _ (by dsimp only; omega)]
      · refine NG.out.2.2.2.of (by simp) (fun q hq hn' => ?_)
        have q2 := NG.out.2.2.2.ne R3 (by decide) q hq hn'
        iterate 10 rw [blk_setCell_other _ _ _ _ (by dsimp only; omega)]
      · iterate 10 refine Below.setCell ?_ (by dsimp only; omega) _
        exact B3

end Go.Proofs.Ytimacbpfnkephaa
