/- ThreadOf of the program and of the model. -/
import Derived.Test.YtimacbpfnkephaaKX6
import Derived.Test.YtimacbpfnkephaaKX3
import Derived.Test.YtimacbpfnkephaaKC3
namespace Go.Proofs.Ytimacbpfnkephaa
open Go Go.RowKit Go.Deep Go.Maps

def zeroT : ThrV := ⟨0, 0, ⟨none, 0, 0, fun _ => 0, fun _ => 0⟩, 0, ⟨none, 0, 0, fun _ => 0, fun _ => 0⟩, ⟨none, 0, 0, fun _ => 0⟩, 0⟩
theorem zeroT_new (B : Nat) (w : World) : zeroT.new B w := ⟨⟨⟨Nat.zero_le _, fun h => by simp [zeroT] at h⟩, fun h => by simp [zeroT] at h⟩, ⟨⟨Nat.zero_le _, fun h => by simp [zeroT] at h⟩, fun h => by simp [zeroT] at h⟩, ⟨⟨Nat.zero_le _, fun h => by simp [zeroT] at h⟩, fun h => by simp [zeroT] at h⟩⟩
theorem zeroT_apart : zeroT.apart := fun _ _ _ h => by simp [zeroT] at h
theorem ThrV.same.refl (t : ThrV) : t.same t := ⟨rfl, rfl, ⟨rfl, rfl, rfl⟩, rfl, ⟨rfl, rfl, rfl⟩, ⟨rfl, rfl⟩, rfl⟩
/-- where the thread x of a right kernel stands -/
def thrL (k : KerV) (x : Int) : Option Nat := if kerOk k = true then findI (fun i => (k.T i).id) k.tn x else none
def theT (k : KerV) (x : Int) : ThrV := match thrL k x with
  | some i => k.T i
  | none => zeroT
theorem ThrV.new.below {B : Nat} {w w' : World} {t : ThrV} (h : t.new B w) (hb : Below w.heap.size w w') : t.new B w' := ⟨h.1.below hb, h.2.1.below hb, h.2.2.below hb⟩
theorem ThrV.new.low {B B' : Nat} {w : World} {t : ThrV} (h : t.new B w) (hB : B' ≤ B) : t.new B' w := ⟨h.1.low hB, h.2.1.low hB, h.2.2.low hB⟩
theorem results20 (tmps : Array Value) (W : World) (P : Nat) (x0 x1 x2 x3 x4 x5 x6 : Value) (b : Bool) (h : Blk W P (.cells #[x0, x1, x2, x3, x4, x5, x6] 41)) (h2 : tmps[4]? = some (.pointer (some ⟨P, 0, none⟩))) (h3 : tmps[5]? = some (.bool b)) :
    (results Try.f9 tmps).run Try.prog W = .ok (.tuple #[.agg #[x0, x1, x2, x3, x4, x5, x6], .bool b]) W := by
  obtain ⟨z0, z1, z2, z3, z4, z5, z6⟩ := h.seven
  simp [results, Try.results9, go_sem, h2, h3, z0, z1, z2, z3, z4, z5, z6]
/-- what ThreadOf answers -/
def ThrAns (k : KerV) (x : Int) (w w' : World) (e : Ending) : Prop := ∃ g : ThrV, e = .returned (.tuple #[g.val, .bool (thrL k x).isSome]) ∧ (theT k x).same g ∧ g.new w.heap.size w' ∧ g.apart ∧ Below w.heap.size w w'
theorem ThrAns.none {k : KerV} {x : Int} {w w' : World} (h : thrL k x = .none) (hb : Below w.heap.size w w') : ThrAns k x w w' (.returned (.tuple #[.agg #[.int .i64 0, .int .i64 0, .slice .none 0 0, .int .i64 0, .slice .none 0 0, .slice .none 0 0, .int .i64 0], .bool false])) :=
  ⟨zeroT, by rw [h]; rfl, by rw [theT, h]; exact ThrV.same.refl _, zeroT_new _ _, zeroT_apart, hb⟩

set_option maxRecDepth 100000 in
set_option maxHeartbeats 8000000 in
theorem implThreadOf_any (k : KerV) (x : Int) (w : World) (hk : k.at w) (hs : k.small) (hcap : k.on ≤ k.ok) (hw : ∀ i, i < k.on → (Lit.int .i64 (k.O i).id).wf = true ∧ (Lit.int .i64 (k.O i).up).wf = true) :
    Calls Try.prog 9 #[k.val, .int .i64 x] w fun e w' => ThrAns k x w w' e := by
  have b0 : Below w.heap.size w ((w.alloc (.cells #[.slice k.ta k.tn k.tk, .slice k.oa k.on k.ok] 28)).alloc (.cells #[.int .i64 0, .int .i64 0, .slice none 0 0, .int .i64 0, .slice none 0 0, .slice none 0 0, .int .i64 0] 41)) := ((Below.refl _ w).alloc (Nat.le_refl _) _).alloc (by simp) _
  have A0 := (Blk.new w (.cells #[.slice k.ta k.tn k.tk, .slice k.oa k.on k.ok] 28)).alloc (.cells #[.int .i64 0, .int .i64 0, .slice none 0 0, .int .i64 0, .slice none 0 0, .slice none 0 0, .int .i64 0] 41)
  have R0 : Blk ((w.alloc (.cells #[.slice k.ta k.tn k.tk, .slice k.oa k.on k.ok] 28)).alloc (.cells #[.int .i64 0, .int .i64 0, .slice none 0 0, .int .i64 0, .slice none 0 0, .slice none 0 0, .int .i64 0] 41)) (w.heap.size + 1) (.cells #[.int .i64 0, .int .i64 0, .slice none 0 0, .int .i64 0, .slice none 0 0, .slice none 0 0, .int .i64 0] 41) := by
    have := Blk.new (w.alloc (.cells #[.slice k.ta k.tn k.tk, .slice k.oa k.on k.ok] 28)) (.cells #[.int .i64 0, .int .i64 0, .slice none 0 0, .int .i64 0, .slice none 0 0, .slice none 0 0, .int .i64 0] 41)
    simpa using this
  have HK := hid hk
  have HS := hid hs
  have C1 := hid (implKer_any k _ (hk.below b0) hcap hw)
  unfold KerV.val at C1
  unfold KerV.val
  obtain ⟨x0, x1⟩ := A0.two
  have ne1 : ¬ w.heap.size = w.heap.size + 1 := by omega
  have ne2 : ¬ w.heap.size + 1 = w.heap.size := by omega
  clear hk hs hw
  go_enter Try.func9, Try.ntmps9
  go_wp2_with fail
  refine C1.out.mono ?_
  rintro e w1 ⟨rfl, hb1⟩
  have A1 := A0.below hb1
  have R1 := R0.below hb1
  have B1 := then_ b0 hb1
  clear x0 x1 C1 A0 R0 b0 hb1
  obtain ⟨x0, x1⟩ := A1.two
  obtain ⟨r0, r1, r2, r3, r4, r5, r6⟩ := R1.seven
  have rf := R1.warm
  cases t : kerOk k with
  | false =>
    have N := hid (show thrL k x = none by simp [thrL, t])
    go_wp2
    refine bodyPost_ret (results20 _ _ (w.heap.size + 1) _ _ _ _ _ _ _ false (Blk.all7 R1 _ _ _ _ _ _ _) rfl rfl) rfl (ThrAns.none N.out ?_)
    iterate 7 refine Below.setCell ?_ (by dsimp only; omega) _
    exact B1
  | true =>
    have TL : Hid (thrL k x = findI (fun i => (k.T i).id) k.tn x) := hid (by rw [thrL, if_pos t])
    have C2 := hid (threadPlace_any k.ta k.tn k.tk k.T x w1 HK.out.1 (HK.out.below B1).2.2.1)
    obtain ⟨tn1, _, _⟩ := thrsOk_out (show thrsOk k.tn k.T = true by simp only [kerOk, Bool.and_eq_true] at t; exact t.1.1.1.1)
    clear t
    go_wp2_with fail
    refine C2.out.mono ?_
    rintro e w2 ⟨rfl, hb2⟩
    have A2 := A1.below hb2
    have R2 := R1.below hb2
    have B2 := then_ B1 hb2
    clear x0 x1 r0 r1 r2 r3 r4 r5 r6 rf C2 A1 R1 B1 hb2
    obtain ⟨x0, x1⟩ := A2.two
    obtain ⟨r0, r1, r2, r3, r4, r5, r6⟩ := R2.seven
    have rf := R2.warm
    cases hf : findI (fun i => (k.T i).id) k.tn x with
    | none =>
      rw [hf] at TL
      have e3 : idxI none = -1 := rfl
      rw [e3]
      clear hf e3
      go_wp2
      refine bodyPost_ret (results20 _ _ (w.heap.size + 1) _ _ _ _ _ _ _ false (Blk.all7 R2 _ _ _ _ _ _ _) rfl rfl) rfl (ThrAns.none TL.out ?_)
      iterate 7 refine Below.setCell ?_ (by dsimp only; omega) _
      exact B2
    | some i =>
      have hi := (findI_some hf).1
      rw [hf] at TL
      have e3 : idxI (some i) = (i : Int) := rfl
      rw [e3]
      have u0 : ¬ (i : Int) < 0 := by omega
      have u0' : (0 : Int) ≤ (i : Int) := by omega
      have u1 : (i : Int) < (k.tn : Int) := by omega
      obtain ⟨b, off, ea, _, hcc⟩ := (HK.out.below B2).2.2.1 (by omega)
      obtain ⟨⟨q0, q1, q2, q3, q4, q5, q6⟩, ht⟩ := hcc i hi
      rw [ea] at x0
      have C3 := hid (copiedThread_any (k.T i) w2 ht (HS.out.1.2 i hi))
      unfold ThrV.val at C3
      clear hf e3 hcc ht ea
      go_wp2_with fail
      refine C3.out.mono ?_
      rintro e w3 ⟨g, rfl, sg, ng, ag, hb3⟩
      have R3 := R2.below hb3
      have B3 := then_ B2 hb3
      have NG := hid (ng.low B2.size)
      have SG := hid sg
      have AG := hid ag
      clear x0 x1 r0 r1 r2 r3 r4 r5 r6 rf C3 A2 R2 B2 hb3 q0 q1 q2 q3 q4 q5 q6 sg ng ag
      obtain ⟨r0, r1, r2, r3, r4, r5, r6⟩ := R3.seven
      have rf := R3.warm
      unfold CatL.val IntL.val
      go_wp2
      refine bodyPost_ret (results20 _ _ (w.heap.size + 1) _ _ _ _ _ _ _ true (Blk.all7 R3 _ _ _ _ _ _ _) rfl rfl) rfl ⟨g, by rw [TL.out]; rfl, by rw [theT, TL.out]; exact SG.out, ⟨?_, ?_, ?_⟩, AG.out, ?_⟩
      · refine NG.out.1.of (by simp) (fun q hq hn' => ?_)
        have q2 := NG.out.1.ne R3 (by decide) q hq hn'
        iterate 7 rw [blk_setCell_other _ _ _ _ (by dsimp only; omega)]
      · refine NG.out.2.1.of (by simp) (fun q hq hn' => ?_)
        have q2 := NG.out.2.1.ne R3 (by decide) q hq hn'
        iterate 7 rw [blk_setCell_other _ _ _ _ (by dsimp only; omega)]
      · refine NG.out.2.2.of (by simp) (fun q hq hn' => ?_)
        have q2 := NG.out.2.2.ne R3 (by decide) q hq hn'
        iterate 7 rw [blk_setCell_other _ _ _ _ (by dsimp only; omega)]
      · iterate 7 refine Below.setCell ?_ (by dsimp only; omega) _
        exact B3

/-- what the model's ThreadOf answers -/
def ThrAnsS (k : KerV) (x : Int) (w w' : World) (e : Ending) : Prop := ∃ g : ThrV, e = .returned (.tuple #[g.val, .bool (thrL k x).isSome]) ∧ (theT k x).same g ∧ g.new w.heap.size w' ∧ Below w.heap.size w w'
theorem ThrAnsS.none {k : KerV} {x : Int} {w w' : World} (h : thrL k x = .none) (hb : Below w.heap.size w w') : ThrAnsS k x w w' (.returned (.tuple #[.agg #[.int .i64 0, .int .i64 0, .slice .none 0 0, .int .i64 0, .slice .none 0 0, .slice .none 0 0, .int .i64 0], .bool false])) :=
  ⟨zeroT, by rw [h]; rfl, by rw [theT, h]; exact ThrV.same.refl _, zeroT_new _ _, hb⟩

end Go.Proofs.Ytimacbpfnkephaa
