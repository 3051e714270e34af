/- ObjectOf of the program and of the model. -/
import Derived.Test.YtkoinmddcnnipaaNC1
import Derived.Test.YtkoinmddcnnipaaKO2
import Derived.Test.YtkoinmddcnnipaaZ27
import Derived.Test.YtkoinmddcnnipaaNE3
namespace Go.Proofs.Ytkoinmddcnnipaa
open Go Go.RowKit Go.Deep Go.Maps

def zeroO : ObjV := ⟨0, 0, 0, 0, ⟨none, 0, 0, fun _ => 0, fun _ => 0⟩, ByteArray.mk #[], ⟨none, 0, 0, fun _ => ByteArray.mk #[]⟩, ⟨none, 0, 0, fun _ => 0⟩, 0, ⟨none, 0, 0, fun _ => 0, fun _ => 0⟩⟩
theorem zeroO_new (B : Nat) (w : World) : zeroO.new B w := ⟨⟨⟨Nat.zero_le _, fun h => by simp [zeroO] at h⟩, fun h => by simp [zeroO] at h⟩, ⟨⟨Nat.zero_le _, fun h => by simp [zeroO] at h, fun i h => by simp [zeroO] at h⟩, fun h => by simp [zeroO] at h⟩, ⟨⟨Nat.zero_le _, fun h => by simp [zeroO] at h⟩, fun h => by simp [zeroO] at h⟩, ⟨⟨Nat.zero_le _, fun h => by simp [zeroO] at h⟩, fun h => by simp [zeroO] at h⟩⟩
theorem zeroO_apart : zeroO.apart := fun _ _ _ h => by simp [zeroO] at h
theorem ObjV.same.refl (t : ObjV) : t.same t := ⟨rfl, rfl, rfl, rfl, ⟨rfl, rfl, rfl⟩, rfl, ⟨rfl, rfl⟩, ⟨rfl, rfl⟩, rfl, ⟨rfl, rfl, rfl⟩⟩
def objL (k : KerV) (x : Int) : Option Nat := if kerOk k = true then findI (fun i => (k.O i).id) k.on x else none
def theO (k : KerV) (x : Int) : ObjV := match objL k x with
  | some i => k.O i
  | none => zeroO
theorem ObjV.new.below {B : Nat} {w w' : World} {t : ObjV} (h : t.new B w) (hb : Below w.heap.size w w') : t.new B w' := ⟨h.1.below hb, h.2.1.below hb, h.2.2.1.below hb, h.2.2.2.below hb⟩
theorem results14 (tmps : Array Value) (W : World) (P : Nat) (x0 x1 x2 x3 x4 x5 x6 x7 x8 x9 : Value) (b : Bool) (h : Blk W P (.cells #[x0, x1, x2, x3, x4, x5, x6, x7, x8, x9] 38)) (h2 : tmps[4]? = some (.pointer (some ⟨P, 0, none⟩))) (h3 : tmps[5]? = some (.bool b)) :
    (results Try.f11 tmps).run Try.prog W = .ok (.tuple #[.agg #[x0, x1, x2, x3, x4, x5, x6, x7, x8, x9], .bool b]) W := by
  obtain ⟨z0, z1, z2, z3, z4, z5, z6, z7, z8, z9⟩ := h.ten
  simp [results, Try.results11, go_sem, h2, h3, z0, z1, z2, z3, z4, z5, z6, z7, z8, z9]
def ObjAns (k : KerV) (x : Int) (w w' : World) (e : Ending) : Prop := ∃ g : ObjV, e = .returned (.tuple #[g.val, .bool (objL k x).isSome]) ∧ (theO k x).same g ∧ g.new w.heap.size w' ∧ g.apart ∧ Below w.heap.size w w'
theorem ObjAns.none {k : KerV} {x : Int} {w w' : World} (h : objL k x = .none) (hb : Below w.heap.size w w') : ObjAns k x w w' (.returned (.tuple #[.agg #[.int .i64 0, .int .i64 0, .int .i64 0, .int .i64 0, .slice .none 0 0, .string (ByteArray.mk #[]), .slice .none 0 0, .slice .none 0 0, .int .i64 0, .slice .none 0 0], .bool false])) :=
  ⟨zeroO, by rw [h]; rfl, by rw [theO, h]; exact ObjV.same.refl _, zeroO_new _ _, zeroO_apart, hb⟩
def ObjAnsS (k : KerV) (x : Int) (w w' : World) (e : Ending) : Prop := ∃ g : ObjV, e = .returned (.tuple #[g.val, .bool (objL k x).isSome]) ∧ (theO k x).same g ∧ g.new w.heap.size w' ∧ Below w.heap.size w w'
theorem ObjAnsS.none {k : KerV} {x : Int} {w w' : World} (h : objL k x = .none) (hb : Below w.heap.size w w') : ObjAnsS k x w w' (.returned (.tuple #[.agg #[.int .i64 0, .int .i64 0, .int .i64 0, .int .i64 0, .slice .none 0 0, .string (ByteArray.mk #[]), .slice .none 0 0, .slice .none 0 0, .int .i64 0, .slice .none 0 0], .bool false])) :=
  ⟨zeroO, by rw [h]; rfl, by rw [theO, h]; exact ObjV.same.refl _, zeroO_new _ _, hb⟩

set_option maxRecDepth 100000 in
set_option maxHeartbeats 8000000 in
theorem implObjectOf_any (k : KerV) (x : Int) (w : World) (hk : k.at w) (hs : k.small) (hcap : k.on ≤ k.ok) (hw : ∀ i, i < k.on → (Lit.int .i64 (k.O i).id).wf = true ∧ (Lit.int .i64 (k.O i).up).wf = true) (hx : (Lit.int .i64 x).wf = true) :
    Calls Try.prog 11 #[k.val, .int .i64 x] w fun e w' => ObjAns k x w w' e := by
  have b0 : Below w.heap.size w ((w.alloc (.cells #[.slice k.ta k.tn k.tk, .slice k.oa k.on k.ok] 27)).alloc (.cells #[.int .i64 0, .int .i64 0, .int .i64 0, .int .i64 0, .slice none 0 0, .string (ByteArray.mk #[]), .slice none 0 0, .slice none 0 0, .int .i64 0, .slice none 0 0] 38)) := ((Below.refl _ w).alloc (Nat.le_refl _) _).alloc (by simp) _
  have A0 := (Blk.new w (.cells #[.slice k.ta k.tn k.tk, .slice k.oa k.on k.ok] 27)).alloc (.cells #[.int .i64 0, .int .i64 0, .int .i64 0, .int .i64 0, .slice none 0 0, .string (ByteArray.mk #[]), .slice none 0 0, .slice none 0 0, .int .i64 0, .slice none 0 0] 38)
  have R0 : Blk ((w.alloc (.cells #[.slice k.ta k.tn k.tk, .slice k.oa k.on k.ok] 27)).alloc (.cells #[.int .i64 0, .int .i64 0, .int .i64 0, .int .i64 0, .slice none 0 0, .string (ByteArray.mk #[]), .slice none 0 0, .slice none 0 0, .int .i64 0, .slice none 0 0] 38)) (w.heap.size + 1) (.cells #[.int .i64 0, .int .i64 0, .int .i64 0, .int .i64 0, .slice none 0 0, .string (ByteArray.mk #[]), .slice none 0 0, .slice none 0 0, .int .i64 0, .slice none 0 0] 38) := by
    have := Blk.new (w.alloc (.cells #[.slice k.ta k.tn k.tk, .slice k.oa k.on k.ok] 27)) (.cells #[.int .i64 0, .int .i64 0, .int .i64 0, .int .i64 0, .slice none 0 0, .string (ByteArray.mk #[]), .slice none 0 0, .slice none 0 0, .int .i64 0, .slice none 0 0] 38)
    simpa using this
  have HK := hid hk
  have HS := hid hs
  have HW := hid hw
  have HX := hid hx
  have C1 := hid (implKer_any k _ (hk.below b0) hcap hw)
  unfold KerV.val at C1
  unfold KerV.val
  obtain ⟨x0, x1⟩ := A0.two
  have ne1 : ¬ w.heap.size = w.heap.size + 1 := by omega
  have ne2 : ¬ w.heap.size + 1 = w.heap.size := by omega
  clear hk hs hw hx
  go_enter Try.func11, Try.ntmps11
  go_wp2_with fail
  refine C1.out.mono ?_
  rintro e w1 ⟨rfl, hb1⟩
  have A1 := A0.below hb1
  have R1 := R0.below hb1
  have B1 := then_ b0 hb1
  clear x0 x1 C1 A0 R0 b0 hb1
  obtain ⟨x0, x1⟩ := A1.two
  obtain ⟨r0, r1, r2, r3, r4, r5, r6, r7, r8, r9⟩ := R1.ten
  have rf := R1.warm
  cases t : kerOk k with
  | false =>
    have N := hid (show objL k x = none by simp [objL, t])
    go_wp2
    refine bodyPost_ret (results14 _ _ (w.heap.size + 1) _ _ _ _ _ _ _ _ _ _ false (Blk.all10 R1 _ _ _ _ _ _ _ _ _ _) rfl rfl) rfl (ObjAns.none N.out ?_)
    iterate 10 refine Below.setCell ?_ (by dsimp only; omega) _
    exact B1
  | true =>
    have ho := (kerOk_parts t).2.1
    obtain ⟨on1, on2, _, _⟩ := objsOk_out ho
    obtain ⟨ob, off, eoa, _, _⟩ := HK.out.2.2.2 (by omega)
    have TL : Hid (objL k x = findI (fun i => (k.O i).id) k.on x) := hid (by rw [objL, if_pos t])
    have C2 := hid (nodesOf_any ob off k.on k.ok k.O w1 on2 (by rw [← eoa]; exact (HK.out.below B1).2.2.2) (objsOk_rises ho) HW.out)
    rw [eoa] at x1
    have EOA := hid eoa
    clear eoa t ho
    go_wp2_with fail
    refine C2.out.mono ?_
    rintro e w2 ⟨c, nb, kv, rfl, hN, hb2⟩
    have HN := hid hN
    have R2 := R1.below hb2
    have B2 := then_ B1 hb2
    have LK := hN.map.look HX.out
    clear hN C2 x0 x1 r0 r1 r2 r3 r4 r5 r6 r7 r8 r9 rf R1
    obtain ⟨r0, r1, r2, r3, r4, r5, r6, r7, r8, r9⟩ := R2.ten
    have rf := R2.warm
    cases hf : findI (fun i => (k.O i).id) k.on x with
    | none =>
      rw [hf] at LK TL
      simp only [Option.map_none] at LK
      clear hf
      go_wp2
      refine bodyPost_ret (results14 _ _ (w.heap.size + 1) _ _ _ _ _ _ _ _ _ _ false (Blk.all10 R2 _ _ _ _ _ _ _ _ _ _) rfl rfl) rfl (ObjAns.none TL.out ?_)
      iterate 10 refine Below.setCell ?_ (by dsimp only; omega) _
      exact B2
    | some u =>
      have hu := (findI_some hf).1
      rw [hf] at LK TL
      simp only [Option.map_some] at LK
      have y0 : _ = some (Value.pointer (some ⟨ob, off + u * 10, none⟩)) := (HN.out.blk u hu).c0 0 rfl
      obtain ⟨b', off', ea, _, hcc⟩ := (HK.out.below B2).2.2.2 (by omega)
      have ee := EOA.out.symm.trans ea
      cases ee
      obtain ⟨⟨q0, q1, q2, q3, q4, q5, q6, q7, q8, q9⟩, ht⟩ := hcc u hu
      have C3 := hid (copiedObject_any (k.O u) w2 ht (HS.out.2.2 u hu))
      unfold ObjV.val at C3
      clear hf hcc ht ea EOA
      go_wp2_with fail
      refine C3.out.mono ?_
      rintro e w3 ⟨g, rfl, sg, ng, ag, hb3⟩
      have R3 := R2.below hb3
      have B3 := then_ B2 hb3
      have NG := hid (ng.low B2.size)
      have SG := hid sg
      have AG := hid ag
      clear r0 r1 r2 r3 r4 r5 r6 r7 r8 r9 rf C3 R2 B2 hb3 q0 q1 q2 q3 q4 q5 q6 q7 q8 q9 sg ng ag y0 LK
      obtain ⟨r0, r1, r2, r3, r4, r5, r6, r7, r8, r9⟩ := R3.ten
      have rf := R3.warm
      unfold CatL.val IntL.val StrL.val
      go_wp2
      refine bodyPost_ret (results14 _ _ (w.heap.size + 1) _ _ _ _ _ _ _ _ _ _ true (Blk.all10 R3 _ _ _ _ _ _ _ _ _ _) rfl rfl) rfl ⟨g, by rw [TL.out]; rfl, by rw [theO, TL.out]; exact SG.out, ⟨?_, ?_, ?_, ?_⟩, AG.out, ?_⟩
      · refine NG.out.1.of (by simp) (fun q hq hn' => ?_)
        have q2 := NG.out.1.ne R3 (by decide) q hq hn'
        iterate 10 rw [blk_setCell_other _ _ _ _ (by dsimp only; omega)]
      · refine NG.out.2.1.of (by simp) (fun q hq hn' => ?_)
        have q2 := NG.out.2.1.ne R3 (by decide) q hq hn'
        iterate 10 rw [blk_setCell_other _ _ _ _ (by dsimp only; omega)]
      · refine NG.out.2.2.1.of (by simp) (fun q hq hn' => ?_)
        have q2 := NG.out.2.2.1.ne R3 (by decide) q hq hn'
        iterate 10 rw [blk_setCell_other _ _ _ _ (by dsimp only; omega)]
      · refine NG.out.2.2.2.of (by simp) (fun q hq hn' => ?_)
        have q2 := NG.out.2.2.2.ne R3 (by decide) q hq hn'
        iterate 10 rw [blk_setCell_other _ _ _ _ (by dsimp only; omega)]
      · iterate 10 refine Below.setCell ?_ (by dsimp only; omega) _
        exact B3

end Go.Proofs.Ytkoinmddcnnipaa
namespace Go.Proofs.Ytkoinmddcnnipaa
open Go Go.RowKit Go.Deep Go.Maps

theorem pair_iff {n : Nat} {h : Nat → Int} : ((List.range n).map h).Pairwise (· < ·) ↔ ∀ i j, i < j → j < n → h i < h j := by
  rw [List.pairwise_iff_getElem]
  constructor
  · intro H i j hij hj
    have := H i j (by simp; omega) (by simp; omega) hij
    simpa using this
  · intro H i j hi hj hij
    simp at hi hj
    simpa using H i j hij hj
theorem ownOk_list {n : Nat} {h : Nat → Int} : ownOk n h = true ↔ n ≤ 10 ∧ ((List.range n).map h).Pairwise (· < ·) ∧ ∀ x ∈ (List.range n).map h, 1 ≤ x ∧ x ≤ 9999 := by
  unfold ownOk
  simp only [Bool.and_eq_true, decide_eq_true_eq, List.all_eq_true, List.mem_range]
  constructor
  · rintro ⟨h1, h2⟩
    refine ⟨h1, ?_, ?_⟩
    · rw [pair_iff]
      refine rises_of (fun i i0 hi => ?_)
      have := h2 i hi
      unfold ownAt at this
      simp only [Bool.and_eq_true, Bool.or_eq_true, decide_eq_true_eq, beq_iff_eq] at this
      rcases this.2 with e | e
      · omega
      · exact e
    · intro x hx
      obtain ⟨i, hi, rfl⟩ := List.mem_map.1 hx
      have := h2 i (List.mem_range.1 hi)
      unfold ownAt at this
      simp only [Bool.and_eq_true, inB_iff] at this
      exact this.1
  · rintro ⟨h1, h2, h3⟩
    refine ⟨h1, fun i hi => ?_⟩
    rw [pair_iff] at h2
    unfold ownAt
    simp only [Bool.and_eq_true, Bool.or_eq_true, decide_eq_true_eq, beq_iff_eq, inB_iff]
    refine ⟨h3 _ (List.mem_map.2 ⟨i, List.mem_range.2 hi, rfl⟩), ?_⟩
    by_cases e : i = 0
    · exact .inl e
    · exact .inr (h2 (i - 1) i (by omega) hi)
theorem ownOk_of {L : List Int} (h1 : L.length ≤ 10) (h2 : L.Pairwise (· < ·)) (h3 : ∀ x ∈ L, 1 ≤ x ∧ x ≤ 9999) : ownOk L.length (nthI L) = true := by
  rw [ownOk_list, range_nth]
  exact ⟨h1, h2, h3⟩
theorem thr_refl (t : ThrV) : t.same t := ⟨rfl, rfl, ⟨rfl, rfl, rfl⟩, rfl, ⟨rfl, rfl, rfl⟩, ⟨rfl, rfl⟩, rfl⟩
theorem set_at {α : Type} {l : List α} {t j : Nat} {x z : α} (hj : j < l.length) : (l.set t x).getD j z = if j = t then x else l.getD j z := by
  rw [List.getD_eq_getElem?_getD, List.getD_eq_getElem?_getD, List.getElem?_set]
  by_cases e : t = j
  · subst e; simp [hj]
  · have e' : ¬ j = t := fun h => e h.symm
    simp [e, e']
section
variable {lt : List ThrV} {lo : List ObjV} (ok : okL lt lo = true)
include ok
theorem okL_setT {t : Nat} (ht : t < lt.length) {x : ThrV} (hx : ThrF x) (hi : x.id = lt[t].id) (hm : lt[t].made ≤ x.made) : okL (lt.set t x) lo = true := by
  have e : (kOf none 0 none 0 lt lo).T t = lt[t] := atOwnT_get ht
  have k := (kerOk_iff.1 ok).setT (t := t) (thrF_iff.2 hx) (by rw [e]; exact hi) (by rw [e]; exact hm)
  have h := kerOk_iff.2 k
  refine (kerOk_same ?_).trans h
  refine ⟨by simp [kOf, KerV.setT], fun j hj => ?_, rfl, fun j hj => ObjV.same.refl _⟩
  have hj' : j < lt.length := hj
  have e2 : (kOf none 0 none 0 (lt.set t x) lo).T j = ((kOf none 0 none 0 lt lo).setT t x).T j := set_at hj'
  rw [e2]
  exact thr_refl _
theorem okL_setO {u : Nat} (hu : u < lo.length) {x : ObjV} (hx : ObjF x) (h1 : x.id = lo[u].id) (h2 : x.kind = lo[u].kind) (h3 : x.up = lo[u].up) : okL lt (lo.set u x) = true := by
  have e : (kOf none 0 none 0 lt lo).O u = lo[u] := atOwnOb_get hu
  have k := (kerOk_iff.1 ok).setO (i := u) (objF_iff.2 hx) (by rw [e]; exact h1) (by rw [e]; exact h2) (by rw [e]; exact h3)
  have h := kerOk_iff.2 k
  refine (kerOk_same ?_).trans h
  refine ⟨rfl, fun j hj => thr_refl _, by simp [kOf, KerV.setO], fun j hj => ?_⟩
  have hj' : j < lo.length := hj
  have e2 : (kOf none 0 none 0 lt (lo.set u x)).O j = ((kOf none 0 none 0 lt lo).setO u x).O j := set_at hj'
  rw [e2]
  exact ObjV.same.refl _
theorem okL_root : atOwnOb lo 0 = atOwnOb lo 0 ∧ (atOwnOb lo 0).id = 1 ∧ (atOwnOb lo 0).up = 0 := by
  have r := (kerOk_iff.1 ok).root
  unfold rootB at r
  simp only [Bool.and_eq_true, beq_iff_eq] at r
  exact ⟨rfl, r.1.1, r.2⟩
theorem okL_pos {j : Nat} (hj : j < lo.length) : 1 ≤ (atOwnOb lo j).id := by
  have r := (okL_root ok).2.1
  by_cases e : j = 0
  · subst e; omega
  · have h := (kerOk_iff.1 ok).rise 0 j (by omega) hj
    have h' : (atOwnOb lo 0).id < (atOwnOb lo j).id := h
    omega
end
theorem insL_split (x : ObjV) : ∀ lo : List ObjV, ∃ p, p ≤ lo.length ∧ insL x lo = lo.take p ++ x :: lo.drop p ∧ (∀ j, j < p → ¬ x.id < (atOwnOb lo j).id) ∧ (p < lo.length → x.id < (atOwnOb lo p).id)
  | [] => ⟨0, Nat.le_refl _, rfl, fun j hj => absurd hj (Nat.not_lt_zero j), fun h => absurd h (Nat.not_lt_zero 0)⟩
  | y :: r => by
    by_cases h : x.id < y.id
    · refine ⟨0, Nat.zero_le _, by simp [insL, h], fun j hj => absurd hj (Nat.not_lt_zero j), fun _ => ?_⟩
      simpa [atOwnOb] using h
    · obtain ⟨p, h1, h2, h3, h4⟩ := insL_split x r
      refine ⟨p + 1, by simpa using h1, by simp [insL, h, h2], fun j hj => ?_, fun hp => ?_⟩
      · cases j with
        | zero => simpa [atOwnOb] using h
        | succ j => have := h3 j (by omega); simpa [atOwnOb] using this
      · have := h4 (by simpa using hp)
        simpa [atOwnOb] using this
theorem ins_at {lo : List ObjV} {p j : Nat} {x : ObjV} (hp : p ≤ lo.length) : atOwnOb (lo.take p ++ x :: lo.drop p) j = insO (atOwnOb lo) p x j := by
  unfold atOwnOb insO
  simp only [List.getD_eq_getElem?_getD]
  have lp : (lo.take p).length = p := by simp [hp]
  by_cases h1 : j < p
  · rw [if_pos h1, List.getElem?_append_left (by omega), List.getElem?_take_of_lt h1]
  · rw [if_neg h1, List.getElem?_append_right (by omega), lp]
    by_cases h2 : j = p
    · subst h2; simp
    · rw [if_neg h2]
      obtain ⟨m, rfl⟩ : ∃ m, j = p + m + 1 := ⟨j - p - 1, by omega⟩
      have e : p + m + 1 - p = m + 1 := by omega
      rw [e, List.getElem?_cons_succ, List.getElem?_drop]
      congr 2
theorem okL_ins {lt : List ThrV} {lo : List ObjV} (ok : okL lt lo = true) {x : ObjV} (hx : ObjF x) (hn : numAt lt.length (atOwnT lt) x.id = true) {u : Nat} (hu : atL lo x.up = some u) (hk : (atOwnOb lo u).kind = 3) (hne : ∀ j, j < lo.length → (atOwnOb lo j).id ≠ x.id) (h1 : 1 < x.id) : okL lt (insL x lo) = true := by
  obtain ⟨p, hp, e, lo', hi'⟩ := insL_split x lo
  have kk := kerOk_iff.1 ok
  have u1 := findI_some hu
  have p0 : 0 < p := by
    by_cases h : p = 0
    · subst h
      have := hi' (by have := okL_on ok; omega)
      have := (okL_root ok).2.1
      omega
    · omega
  have k := kk.ins (p := p) (x := x) p0 hp (fun j hj => by
      have h1 := lo' j hj
      have h2 := hne j (by omega)
      show (atOwnOb lo j).id < x.id
      omega) (fun j hj hjn => by
      have h0 := hi' (by have : j < lo.length := hjn; omega)
      show x.id < (atOwnOb lo j).id
      by_cases ej : j = p
      · subst ej; exact h0
      · have h2 : (atOwnOb lo p).id < (atOwnOb lo j).id := kk.rise p j (by omega) hjn
        omega) (objF_iff.2 hx) hn ⟨u, u1.1, u1.2, hk⟩
  have h := kerOk_iff.2 k
  refine (kerOk_same ?_).trans h
  have el : (insL x lo).length = lo.length + 1 := insL_len
  refine ⟨rfl, fun j hj => thr_refl _, el, fun j hj => ?_⟩
  have e2 : (kOf none 0 none 0 lt (insL x lo)).O j = ((kOf none 0 none 0 lt lo).ins p x).O j := by
    show atOwnOb (insL x lo) j = insO (atOwnOb lo) p x j
    rw [e]
    exact ins_at hp
  rw [e2]
  exact ObjV.same.refl _
theorem hasB_mem {G : List Int} {x : Int} : hasB G.length (nthI G) x = true ↔ x ∈ G := by
  unfold hasB
  rw [List.any_eq_true]
  constructor
  · rintro ⟨i, hi, e⟩
    have hi' := List.mem_range.1 hi
    have : nthI G i = x := by simpa using e
    rw [← this]
    unfold nthI
    rw [List.getD_eq_getElem?_getD, List.getElem?_eq_getElem hi']
    exact List.getElem_mem hi'
  · intro h
    obtain ⟨i, hi, e⟩ := List.mem_iff_getElem.1 h
    exact ⟨i, List.mem_range.2 hi, by simp [nthI, hi, e]⟩
theorem lo_map (lo : List ObjV) : (List.range lo.length).map (atOwnOb lo) = lo := by
  refine List.ext_getElem (by simp) (fun i h1 h2 => ?_)
  simp [atOwnOb, h2]
theorem okL_cut {lt : List ThrV} {lo : List ObjV} (ok : okL lt lo = true) {x : Int} {u : Nat} (hu : atL lo x = some u) (u0 : 0 < u) : okL lt (stayL (goneL lo u) lo lo.length) = true := by
  have kk := kerOk_iff.1 ok
  obtain ⟨ul, _⟩ := findI_some hu
  have h0 : ∀ j, j < lo.length → (fun i => (atOwnOb lo i).id) j ≠ (fun i => (atOwnOb lo i).up) 0 := fun j hj => by
    have := okL_pos ok hj
    have := (okL_root ok).2.2
    show (atOwnOb lo j).id ≠ (atOwnOb lo 0).up
    omega
  have rise : Rises (fun i => (atOwnOb lo i).id) lo.length := kk.rise
  have hc : NoCyc (fun i => (atOwnOb lo i).id) (fun i => (atOwnOb lo i).up) lo.length u := ker_noCyc ok ul
  have gone : ∀ y, hasB (goneL lo u).length (nthI (goneL lo u)) y = true ↔ ∃ i, i < lo.length ∧ (∃ m, m < lo.length ∧ parIt (fun i => (atOwnOb lo i).id) (fun i => (atOwnOb lo i).up) lo.length m i = some u) ∧ (atOwnOb lo i).id = y := by
    intro y
    rw [hasB_mem]
    unfold goneL
    rw [sortL_mem, List.mem_map]
    constructor
    · rintro ⟨i, hi, e⟩
      have := (mem_pre rise h0 ul).1 hi
      exact ⟨i, this.1, this.2, e⟩
    · rintro ⟨i, h1, h2, e⟩
      exact ⟨i, (mem_pre rise h0 ul).2 ⟨h1, h2⟩, e⟩
  have k := kk.cut (keep := fun i => !hasB (goneL lo u).length (nthI (goneL lo u)) (atOwnOb lo i).id) (by
    simp only [Bool.not_eq_true']
    rw [← Bool.not_eq_true, gone]
    rintro ⟨i, hi, ⟨m, _, hm⟩, e⟩
    have e0 : i = 0 := rise.inj hi (by omega) e
    subst e0
    cases m with
    | zero => simp [parIt] at hm; omega
    | succ m => simp [parIt, par] at hm) (fun i p i0 hi hp e hk => by
    simp only [Bool.not_eq_true'] at hk ⊢
    rw [← Bool.not_eq_true, gone] at hk ⊢
    rintro ⟨j, hj, ⟨m, _, hm⟩, ej⟩
    have e1 : j = p := rise.inj hj hp ej
    subst e1
    refine hk ⟨i, hi, ?_, rfl⟩
    have pi : par (fun i => (atOwnOb lo i).id) (fun i => (atOwnOb lo i).up) lo.length i = some j := by
      unfold par
      rw [if_neg (by omega)]
      have e' : (atOwnOb lo i).up = (atOwnOb lo j).id := e.symm
      show findI (fun i => (atOwnOb lo i).id) lo.length (atOwnOb lo i).up = some j
      rw [e']
      exact findI_eq rise hp
    have pm : parIt (fun i => (atOwnOb lo i).id) (fun i => (atOwnOb lo i).up) lo.length (1 + m) i = some u := by
      rw [parIt_add, parIt_one, pi]
      exact hm
    exact ⟨1 + m, height hc hi pm, pm⟩)
  have h := kerOk_iff.2 k
  refine (kerOk_same ?_).trans h
  have es : stayL (goneL lo u) lo lo.length = (keptL lo.length (fun i => !hasB (goneL lo u).length (nthI (goneL lo u)) (atOwnOb lo i).id)).map (atOwnOb lo) := by
    unfold stayL keptL
    rw [List.take_length]
    generalize goneL lo u = G
    have e1 : lo.filter (fun o => !hasB G.length (nthI G) o.id) = ((List.range lo.length).map (atOwnOb lo)).filter (fun o => !hasB G.length (nthI G) o.id) := by rw [lo_map]
    rw [e1, List.filter_map]
    rfl
  refine ⟨rfl, fun j hj => thr_refl _, by show (stayL _ lo lo.length).length = _; rw [es]; simp [KerV.cut, kOf], fun j hj => ?_⟩
  have e2 : (kOf none 0 none 0 lt (stayL (goneL lo u) lo lo.length)).O j = ((kOf none 0 none 0 lt lo).cut (fun i => !hasB (goneL lo u).length (nthI (goneL lo u)) (atOwnOb lo i).id)).O j := by
    have hj' : j < (keptL lo.length (fun i => !hasB (goneL lo u).length (nthI (goneL lo u)) (atOwnOb lo i).id)).length := hj
    show atOwnOb (stayL (goneL lo u) lo lo.length) j = atOwnOb lo ((keptL lo.length (fun i => !hasB (goneL lo u).length (nthI (goneL lo u)) (atOwnOb lo i).id)).getD j 0)
    rw [es]
    rw [atOwnOb_get (by simpa using hj')]
    simp [hj']
  rw [e2]
  exact ObjV.same.refl _
end Go.Proofs.Ytkoinmddcnnipaa
