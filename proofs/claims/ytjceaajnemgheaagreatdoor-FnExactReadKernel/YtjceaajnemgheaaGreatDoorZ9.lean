/- The program's map of levels: levelsOf fills it, of reads it. -/
import Derived.Test.YtjceaajnemgheaaGreatDoorZ0
import Derived.Maps.Own
import Derived.Maps.OwnSet
import Derived.Test.YtjceaajnemgheaaGreatDoorZ8
namespace Go.Proofs.YtjceaajnemgheaaGreatDoor
open Go.RowKit Go.Deep Go.Maps

theorem keyed2 : Keyed Tryz.prog 2 := int_keyed Tryz.underlying2
theorem zero2 (w : World) : (zeroValue 2).run Tryz.prog w = .ok (.int .i64 0) w := by kernel_rfl
def look (f g : Nat → Int) : Nat → Int → Option Int
  | 0, _ => none
  | k + 1, x => if f k = x then some (g k) else look f g k x
def MapIs (w : World) (b n : Nat) (m : Int → Option Int) : Prop :=
  ∃ D : DataW Unit, w.ownsMap Tryz.prog 2 (plainElem Tryz.prog 2) b n D ∧ IsMap D ∧
    ∀ x, Maps.has D (.int .i64 x) = (m x).isSome ∧ ∀ v, m x = some v → D.atKey (.int .i64 x) (.lit (.int .i64 0)) = .lit (.int .i64 v)

theorem MapIs.made (w : World) : MapIs (w.alloc (.map #[] 0)) w.heap.size 0 (fun _ => none) :=
  ⟨.map [], World.ownsMap_made _ _ _ _, isMap_empty, fun x => ⟨rfl, fun v h => by cases h⟩⟩

theorem MapIs.of_block {w w' : World} {b n : Nat} {m : Int → Option Int} (h : MapIs w b n m) (e : w'.heap[b]? = w.heap[b]?) : MapIs w' b n m := by
  obtain ⟨D, ⟨es, clock, hb, F, hs, hD⟩, r⟩ := h
  exact ⟨D, ⟨es, clock, e.trans hb, F, hs, hD⟩, r⟩

theorem MapIs.setCell {w : World} {b n : Nat} {m : Int → Option Int} (h : MapIs w b n m) {a : Addr} (ha : b ≠ a.block) (v : Value) : MapIs (w.setCell a v) b n m := h.of_block (blk_setCell_other _ _ _ _ ha)

theorem MapIs.lt {w : World} {b n : Nat} {m : Int → Option Int} (h : MapIs w b n m) : b < w.heap.size := by
  obtain ⟨D, h1, _⟩ := h
  exact h1.lt

theorem MapIs.alloc {w : World} {b n : Nat} {m : Int → Option Int} (h : MapIs w b n m) (o : Obj) : MapIs (w.alloc o) b n m := by
  obtain ⟨D, h1, h2, h3⟩ := h
  exact ⟨D, h1.alloc o, h2, h3⟩

def setAt (m : Int → Option Int) (k v : Int) (x : Int) : Option Int := if k = x then some v else m x

theorem MapIs.put {D : DataW Unit} {m : Int → Option Int} {k v : Int} (h2 : IsMap D)
    (h3 : ∀ x, Maps.has D (.int .i64 x) = (m x).isSome ∧ ∀ v, m x = some v → D.atKey (.int .i64 x) (.lit (.int .i64 0)) = .lit (.int .i64 v)) :
    IsMap (D.put (.int .i64 k) (.lit (.int .i64 v))) ∧
    ∀ x, Maps.has (D.put (.int .i64 k) (.lit (.int .i64 v))) (.int .i64 x) = (setAt m k v x).isSome ∧ ∀ u, setAt m k v x = some u → (D.put (.int .i64 k) (.lit (.int .i64 v))).atKey (.int .i64 x) (.lit (.int .i64 0)) = .lit (.int .i64 u) := by
  refine ⟨h2.put _ _, fun x => ?_⟩
  by_cases e : k = x
  · subst e
    refine ⟨?_, fun u hu => ?_⟩
    · rw [has_put_same h2 (by trivial)]; simp [setAt]
    · simp [setAt] at hu
      subst hu
      exact atKey_put_same h2 (by trivial) _ _
  · have hne : (Lit.int .i64 x) ≠ (Lit.int .i64 k) := by simp; exact fun h => e h.symm
    refine ⟨?_, fun u hu => ?_⟩
    · rw [has_put_other hne]; simp [setAt, e]; exact (h3 x).1
    · simp [setAt, e] at hu
      rw [atKey_put_other hne]
      exact (h3 x).2 u hu

theorem look_setAt (f g : Nat → Int) (k : Nat) : setAt (look f g k) (f k) (g k) = look f g (k + 1) := by
  funext x; rfl

theorem grown_cell {w w' : World} {b : Nat} (hg : w.grownBy w' (some b)) {k o : Nat} (hk : k < w.heap.size) (hne : k ≠ b) : w'.cell? ⟨k, o, none⟩ = w.cell? ⟨k, o, none⟩ :=
  World.cell?_of_block (w := w) (hg.block k hk (fun e => hne (by simpa using e)))
theorem grown_frozen {w w' : World} {b : Nat} (hg : w.grownBy w' (some b)) {k o : Nat} (hk : k < w.heap.size) (hne : k ≠ b) : w'.frozen? ⟨k, o, none⟩ = w.frozen? ⟨k, o, none⟩ :=
  World.frozen?_of_block (w := w) (hg.block k hk (fun e => hne (by simpa using e)))

end Go.Proofs.YtjceaajnemgheaaGreatDoor
namespace Go.Proofs.YtjceaajnemgheaaGreatDoor
open Go.RowKit Go.Deep Go.Maps

theorem MapIs.below {w w' : World} {b n : Nat} {m : Int → Option Int} (h : MapIs w b n m) (hb : Below w.heap.size w w') : MapIs w' b n m := h.of_block (hb.block b h.lt)
theorem wf_of_le {x : Int} (h0 : -9223372036854775808 ≤ x) (h1 : x ≤ 9223372036854775807) : (Lit.int .i64 x).wf = true := WalkArith.wf_i64 ⟨h0, h1⟩
theorem wf_bounds {x : Int} (h : (Lit.int .i64 x).wf = true) : -9223372036854775808 ≤ x ∧ x ≤ 9223372036854775807 := by
  simp only [Lit.wf, Bool.and_eq_true, decide_eq_true_eq] at h
  have e1 : IntKind.i64.min = -9223372036854775808 := rfl
  have e2 : IntKind.i64.max = 9223372036854775807 := rfl
  omega
theorem MapIs.look {w : World} {b n : Nat} {m : Int → Option Int} {x : Int} (h : MapIs w b n m) (hx : (Lit.int .i64 x).wf = true) :
    (Instr.lookup 98 (.map (some b)) (.int .i64 x) false).run Tryz.prog w = .ok (.int .i64 ((m x).getD 0)) w := by
  obtain ⟨D, hown, hD, hall⟩ := h
  obtain ⟨c, hrun, hat, _⟩ := hown.lookup_int keyed2 Tryz.underlying98 Tryz.underlying2 (zero2 _) (keyOf_int_mk Tryz.underlying2 hx)
  obtain ⟨h1, h2⟩ := hall x
  rw [hrun]
  cases hm : m x with
  | none =>
    have : Maps.has D (.int .i64 x) = false := by rw [h1, hm]; rfl
    rw [atKey_of_not_has this] at hat
    simp at hat
    simp [← hat]
  | some v =>
    have := (h2 v hm).symm.trans hat
    simp at this
    simp [this]
def madeOf (n : Nat) (T : Nat → ThrV) (x : Int) : Int := (look (fun i => (T i).id) (fun i => (T i).made) n x).getD 0
def numAt (n : Nat) (T : Nat → ThrV) (id : Int) : Bool := decide (1 ≤ id % 1000) && decide (id % 1000 ≤ madeOf n T (id / 1000))
def numsOk (n : Nat) (T : Nat → ThrV) (m : Nat) (O : Nat → ObjV) : Bool := (List.range (m - 1)).all (fun i => numAt n T (O (i + 1)).id)

theorem thrsOk_out {n : Nat} {T : Nat → ThrV} (h : thrsOk n T = true) : 1 ≤ n ∧ n ≤ 9 ∧ ∀ i, i < n → thrAt T i = true := by
  simp only [thrsOk, Bool.and_eq_true, decide_eq_true_eq] at h
  exact ⟨h.1.1, h.1.2, all_out h.2⟩
theorem thrAt_ok {T : Nat → ThrV} {i : Nat} (h : thrAt T i = true) : thrOkV (T i) = true := by
  simp only [thrAt, Bool.and_eq_true] at h
  exact h.1
theorem thrOk_made {t : ThrV} (h : thrOkV t = true) : 0 ≤ t.made ∧ t.made ≤ 30 := by
  unfold thrOkV thrOk at h
  simp only [Bool.and_eq_true] at h
  exact inB_iff.1 (by simp_all)
theorem objsOk_out {n : Nat} {O : Nat → ObjV} (h : objsOk n O = true) : 1 ≤ n ∧ n ≤ 271 ∧ (∀ i, i < n → objAt O i = true) ∧ rootB (O 0) = true := by
  simp only [objsOk, Bool.and_eq_true, decide_eq_true_eq] at h
  exact ⟨h.1.1.1, h.1.1.2, all_out h.1.2, h.2⟩
theorem objsOk_rises {n : Nat} {O : Nat → ObjV} (h : objsOk n O = true) : Rises (fun i => (O i).id) n := by
  obtain ⟨_, _, ha, _⟩ := objsOk_out h
  intro i j hij
  induction j with
  | zero => omega
  | succ j ih =>
    intro hj
    have h1 := ha (j + 1) hj
    simp [objAt] at h1
    by_cases e : i = j
    · subst e; exact h1.2
    · have := ih (by omega) (by omega)
      simp only at this ⊢
      omega
theorem objsOk_root {n : Nat} {O : Nat → ObjV} (h : objsOk n O = true) : (O 0).id = 1 ∧ (O 0).kind = 3 ∧ (O 0).up = 0 := by
  obtain ⟨_, _, _, hr⟩ := objsOk_out h
  simp only [rootB, Bool.and_eq_true, beq_iff_eq] at hr
  exact ⟨hr.1.1, hr.1.2, hr.2⟩
theorem objsOk_pos {n : Nat} {O : Nat → ObjV} (h : objsOk n O = true) : ∀ i, i < n → 1 ≤ (O i).id := by
  intro i hi
  have hr := (objsOk_root h).1
  by_cases e : i = 0
  · subst e; omega
  · have := objsOk_rises h 0 i (by omega) hi
    simp only at this
    omega

set_option maxRecDepth 100000 in
set_option maxHeartbeats 4000000 in
theorem numbersOk_any (k : KerV) (w : World) (hk : k.at w) (hcap : k.on ≤ k.ok) (h1 : thrsOk k.tn k.T = true) (h2 : objsOk k.on k.O = true) (hw : ∀ i, i < k.on → (Lit.int .i64 (k.O i).id).wf = true) :
    Calls Tryz.prog 58 #[k.val] w fun e w' => e = .returned (.bool (numsOk k.tn k.T k.on k.O)) ∧ Below w.heap.size w w' := by
  have hmm := @run_makeMap Tryz.prog
  obtain ⟨ta, tn, tk, T, oa, on, ok, O⟩ := k
  obtain ⟨_, _, hT, hO⟩ := hk
  unfold KerV.val
  simp only at h1 h2 hw hT hO hcap ⊢
  obtain ⟨tn1, tn9, tall⟩ := thrsOk_out h1
  obtain ⟨on1, on2, _, _⟩ := objsOk_out h2
  have HT := hid hT
  have HO := hid hO
  obtain ⟨tb, toff, rfl, _, _⟩ := hT (by omega)
  obtain ⟨ob, ooff, rfl, _, _⟩ := hO (by omega)
  have HP := hid (objsOk_pos h2)
  have HW := hid hw
  have HA := hid tall
  clear h1 h2 hw tall hT hO
  have hb0 := (Below.refl _ w).alloc (Nat.le_refl _) (.cells #[.slice (some ⟨tb, toff, none⟩) tn tk, .slice (some ⟨ob, ooff, none⟩) on ok] 25)
  have A0 := Blk.new w (.cells #[.slice (some ⟨tb, toff, none⟩) tn tk, .slice (some ⟨ob, ooff, none⟩) on ok] 25)
  have hb1 := then_ hb0 ((Below.refl _ _).alloc (Nat.le_refl _) (.map #[] 0))
  have A1 := A0.alloc (.map #[] 0)
  have M0 := MapIs.made (w.alloc (.cells #[.slice (some ⟨tb, toff, none⟩) tn tk, .slice (some ⟨ob, ooff, none⟩) on ok] 25))
  go_enter Tryz.func58, Tryz.ntmps58
  go_wp2
  generalize hW : ((w.alloc (Obj.cells #[.slice (some ⟨tb, toff, none⟩) tn tk, .slice (some ⟨ob, ooff, none⟩) on ok] 25)).alloc (Obj.map #[] 0)) = W at *
  have M1 : MapIs W (w.heap.size + 1) 0 (look (fun i => (T i).id) (fun i => (T i).made) 0) := by simpa [look] using M0
  clear M0 hb0 A0 hmm hW
  go_loopw [13] (fun i wr => ∃ j : Nat, j ≤ tn ∧ i = .int .i64 j ∧ MapIs wr (w.heap.size + 1) j (look (fun i => (T i).id) (fun i => (T i).made) j) ∧ Blk wr w.heap.size (.cells #[.slice (some ⟨tb, toff, none⟩) tn tk, .slice (some ⟨ob, ooff, none⟩) on ok] 25) ∧ Below w.heap.size w wr) (fun i _ => tn - (intOf i).toNat)
  case atStart => exact ⟨0, Nat.zero_le _, rfl, M1, A1, hb1⟩
  case round =>
    obtain ⟨j, hj, rfl, HM, A, hB⟩ := hrel
    clear M1 A1 hb1
    by_cases hlt : j < tn
    · obtain ⟨_, _, ea, hlt0, hcc⟩ := HT.out.below hB (by omega)
      cases ea
      obtain ⟨⟨q0, q1, q2, q3, q4, q5, q6⟩, ht⟩ := hcc j hlt
      have i1 : (j : Int) < (tn : Int) := by omega
      have t1 := thrAt_ok (HA.out j hlt)
      have hkey : keyOf Tryz.prog 2 (.int .i64 (T j).id) = some (.int .i64 (T j).id) := keyOf_int_mk Tryz.underlying2 (wf_of_le (by have := thrOk_id t1; omega) (by have := thrOk_id t1; omega))
      have W2 : Hid ((Lit.int .i64 (T j).made).wf = true) := wf_of_le (by have := thrOk_made t1; omega) (by have := thrOk_made t1; omega)
      have hlm := HM.lt
      obtain ⟨D, hown, hD, hm⟩ := HM
      simp only [CatL.val, IntL.val] at q2 q4 q5
      clear hcc ht t1
      go_wp2_with (at_mapUpdate; refine wpList_mapUpdate_own _ rfl _ _ _ 98 rfl 2 2 keyed2 Tryz.underlying98 _ (w.heap.size + 1) j _ rfl (hown.alloc _) (by unfold maxLen; omega) _ _ _ rfl rfl hkey _ [] (plainElem_int Tryz.underlying2 W2.out) ?_; intro w1 hown1 hgrow1)
      have hm1 := MapIs.put (k := (T j).id) (v := (T j).made) hD hm
      rw [look_setAt (fun i => (T i).id) (fun i => (T i).made) j] at hm1
      have A3 := A.alloc (.cells #[.int .i64 (T j).id, .int .i64 (T j).b1, .slice (T j).c1.a (T j).c1.n (T j).c1.k, .int .i64 (T j).b2, .slice (T j).c2.a (T j).c2.n (T j).c2.k, .slice (T j).own.a (T j).own.n (T j).own.k, .int .i64 (T j).made] 41)
      refine ⟨⟨j + 1, by omega, by go_num, ⟨_, hown1, hm1.1, hm1.2⟩, ?_, ?_⟩, by simp [intOf]; omega⟩
      · exact (hgrow1.block _ A3.lt (by simp)).trans A3
      · exact (hB.alloc hB.size _).grown hgrow1 (by simp; omega) (fun i hi => by cases hi; omega)
    · have e : j = tn := by omega
      subst e
      have i1 : ¬ (j : Int) < (j : Int) := by omega
      obtain ⟨y0, y1⟩ := A.two
      have c1 : (on : Int) ≤ (ok : Int) := by omega
      have c2 : (1 : Int) ≤ (on : Int) := by omega
      clear HT HA y0
      by_cases hok : ok = 1
      · obtain rfl : on = 1 := by omega
        subst hok
        go_wp2
        go_loopw [27] (fun i wr' => i = .int .i64 0 ∧ Below w.heap.size w wr') (fun i _ => 0)
        case atStart => exact ⟨rfl, hB⟩
        case round =>
          obtain ⟨rfl, hB'⟩ := hrel
          go_wp2
          go_ret
          exact ⟨ret_bool (by simp [numsOk]), hB'⟩
      · go_wp2
        go_loopw [27] (fun i wr' => ∃ q : Nat, q ≤ on - 1 ∧ i = .int .i64 q ∧ Hid (∀ p, p < q → numAt j T (O (p + 1)).id = true) ∧ MapIs wr' (w.heap.size + 1) j (look (fun i => (T i).id) (fun i => (T i).made) j) ∧ Below w.heap.size w wr') (fun i _ => on - 1 - (intOf i).toNat)
        case atStart => exact ⟨0, Nat.zero_le _, rfl, hid (fun p hp => by omega), HM, hB⟩
        case round =>
        obtain ⟨q, hq, rfl, HN, HM', hB'⟩ := hrel
        clear y1 A hB HM
        by_cases hlt2 : q < on - 1
        · obtain ⟨_, _, ea, hlt0, hcc⟩ := HO.out.below hB' (by omega)
          cases ea
          obtain ⟨⟨q0, q1, q2, q3, q4, q5, q6, q7, q8, q9⟩, ht⟩ := hcc (q + 1) (by omega)
          have ei : ooff + (q + 1) * 10 = ooff + 10 + q * 10 := by omega
          rw [ei] at q0 q1 q2 q3 q4 q5 q6 q7 q8 q9
          have i2 : (q : Int) < ((on - 1 : Nat) : Int) := by omega
          have hp := HP.out (q + 1) (by omega)
          simp only [CatL.val, IntL.val, StrL.val] at q4 q6 q7 q9
          have hww := HW.out (q + 1) (by omega)
          have hwb := wf_bounds hww
          have ed : wrap64 ((O (q + 1)).id.tdiv 1000) = (O (q + 1)).id / 1000 := by
            rw [Int.tdiv_eq_ediv_of_nonneg (by omega)]
            unfold wrap64
            omega
          have LK := (HM'.alloc (.cells #[.int .i64 (O (q + 1)).id, .int .i64 (O (q + 1)).kind, .int .i64 (O (q + 1)).up, .int .i64 (O (q + 1)).b1, .slice (O (q + 1)).c1.a (O (q + 1)).c1.n (O (q + 1)).c1.k, .string (O (q + 1)).data, .slice (O (q + 1)).items.a (O (q + 1)).items.n (O (q + 1)).items.k, .slice (O (q + 1)).own.a (O (q + 1)).own.n (O (q + 1)).own.k, .int .i64 (O (q + 1)).b2, .slice (O (q + 1)).c2.a (O (q + 1)).c2.n (O (q + 1)).c2.k] 45)).look (x := (O (q + 1)).id / 1000) (wf_of_le (by omega) (by omega))
          have em : ((look (fun i => (T i).id) (fun i => (T i).made) j ((O (q + 1)).id / 1000)).getD 0) = madeOf j T ((O (q + 1)).id / 1000) := rfl
          rw [em] at LK
          have HMa := HM'.alloc (.cells #[.int .i64 (O (q + 1)).id, .int .i64 (O (q + 1)).kind, .int .i64 (O (q + 1)).up, .int .i64 (O (q + 1)).b1, .slice (O (q + 1)).c1.a (O (q + 1)).c1.n (O (q + 1)).c1.k, .string (O (q + 1)).data, .slice (O (q + 1)).items.a (O (q + 1)).items.n (O (q + 1)).items.k, .slice (O (q + 1)).own.a (O (q + 1)).own.n (O (q + 1)).own.k, .int .i64 (O (q + 1)).b2, .slice (O (q + 1)).c2.a (O (q + 1)).c2.n (O (q + 1)).c2.k] 45)
          clear hcc ht ei em hww hwb
          go_wp2
          · go_ret
            have t1 : madeOf j T ((O (q + 1)).id / 1000) < (O (q + 1)).id % 1000 := by omega
            refine ⟨ret_bool ?_, hB'.alloc hB'.size _⟩
            rw [numsOk, all_at hlt2]
            have : decide ((O (q + 1)).id % 1000 ≤ madeOf j T ((O (q + 1)).id / 1000)) = false := by simp; omega
            simp [numAt, this]
          · have t1 : (O (q + 1)).id % 1000 ≤ madeOf j T ((O (q + 1)).id / 1000) := by omega
            have t0 : 1 ≤ (O (q + 1)).id % 1000 := by assumption
            refine ⟨⟨q + 1, by omega, by go_num, hid (fun p hp => ?_), HMa, hB'.alloc hB'.size _⟩, by simp [intOf]; omega⟩
            by_cases e : p = q
            · subst e; simp [numAt, t0, t1]
            · exact HN.out p (by omega)
          · go_ret
            have t1 : (O (q + 1)).id % 1000 < 1 := by assumption
            refine ⟨ret_bool ?_, hB'.alloc hB'.size _⟩
            rw [numsOk, all_at hlt2]
            have : decide (1 ≤ (O (q + 1)).id % 1000) = false := by simp; omega
            simp [numAt, this]
        · have e : q = on - 1 := by omega
          subst e
          go_wp2
          go_ret
          exact ⟨ret_bool (by rw [numsOk, all_yes HN.out]), hB'⟩
end Go.Proofs.YtjceaajnemgheaaGreatDoor
