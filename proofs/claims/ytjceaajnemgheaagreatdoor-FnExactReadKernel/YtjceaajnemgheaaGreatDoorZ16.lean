/- Where a thread stands, by the library's IndexFunc; ThreadOf, both sides. -/
import Derived.Test.YtjceaajnemgheaaGreatDoorZ12
import Derived.Test.YtjceaajnemgheaaGreatDoorZ13
import Derived.Test.YtjceaajnemgheaaGreatDoorKB10
import Derived.Test.YtjceaajnemgheaaGreatDoorZ6
import Derived.Test.YtjceaajnemgheaaGreatDoorZ7
import Derived.Test.YtjceaajnemgheaaGreatDoorZ11
import Derived.Test.YtjceaajnemgheaaGreatDoorZ3
namespace Go.Proofs.YtjceaajnemgheaaGreatDoor
open Go Go.RowKit Go.Deep Go.Maps

end Go.Proofs.YtjceaajnemgheaaGreatDoor
namespace Go.Proofs.YtjceaajnemgheaaGreatDoor
open Go Go.RowKit Go.Deep Go.Maps Go.BigFrame Go.Shelf

theorem OwnCats.madeAt (w : World) (B : Nat) (hb : B ≤ w.heap.size) (f g : Nat → Int) : OwnCats (w.alloc (.cells #[] 58)) B (.slice (some ⟨w.heap.size, 0, none⟩) 0 0) 0 f g := World.ownsRow_made w #[] 0 hb (Nat.zero_le _) rfl
theorem OwnCats.newL {w : World} {B n c : Nat} {a : Option Addr} {f g : Nat → Int} (h : OwnCats w B (.slice a n c) n f g) (hn : n ≤ 1048576) : CatL.new B w ⟨a, n, c, f, g⟩ :=
  ⟨⟨by unfold maxLen; simp only; omega, h.cats⟩, fun h0 => row_of_own h h0⟩

end Go.Proofs.YtjceaajnemgheaaGreatDoor
namespace Go.Proofs.YtjceaajnemgheaaGreatDoor
open Go Go.RowKit Go.Deep Go.Maps

theorem grown_set {a b : World} {P : Nat} (h : a.grownBy b (some P)) (i : Nat) (v : Value) : a.grownBy (b.setCell ⟨P, i, none⟩ v) (some P) :=
  ⟨h.os, h.tape, h.output, by rw [nblk_setCell]; exact h.size, fun j hj hne => (blk_setCell_other _ _ _ _ (by dsimp only; intro e; exact hne (by rw [e]))).trans (h.block j hj hne)⟩
theorem grown_refl (a : World) (P : Nat) : a.grownBy a (some P) := ⟨rfl, rfl, rfl, Nat.le_refl _, fun _ _ _ => rfl⟩
def RowI (w : World) (a : Option Addr) (b n : Nat) : Prop := 0 < n → a = some ⟨b, 0, none⟩ ∧ ∃ m F, n ≤ m ∧ w.rowIs b 2 m F
theorem RowI.below {w w' : World} {a : Option Addr} {b n : Nat} (h : RowI w a b n) (hb : Below w.heap.size w w') : RowI w' a b n := fun h0 => by
  obtain ⟨e, m, F, hm, hr⟩ := h h0
  exact ⟨e, m, F, hm, hr.of_block (hb.block b hr.lt)⟩
theorem RowI.grown {w w' : World} {a : Option Addr} {b n : Nat} {row : Option Nat} (h : RowI w a b n) (hg : w.grownBy w' row) (hne : some b ≠ row) : RowI w' a b n := fun h0 => by
  obtain ⟨e, m, F, hm, hr⟩ := h h0
  exact ⟨e, m, F, hm, hr.of_block (hg.block b hr.lt hne)⟩
theorem RowI.lt {w : World} {a : Option Addr} {b n : Nat} (h : RowI w a b n) (h0 : 0 < n) : b < w.heap.size := by
  obtain ⟨_, m, F, _, hr⟩ := h h0
  exact hr.lt
theorem RowI.of_own {w : World} {B k : Nat} {a : Option Addr} {l : List Int} (h : OwnI w B (.slice a l.length k) l) : ∃ b, RowI w a b l.length ∧ (0 < l.length → B ≤ b) := by
  rcases h.2 with ⟨_, h0⟩ | ⟨g, cap, cur, hv, hbg, hg, hle, _, hsz, _⟩
  · exact ⟨0, fun h => by omega, fun h => by omega⟩
  · simp only [Value.slice.injEq] at hv
    refine ⟨g, fun _ => ⟨hv.1, cap * 1, fun i => cur.getD i undef, by omega, cur, hg, hsz, fun i hi => ?_⟩, fun _ => hbg⟩
    have : i < cur.size := by omega
    simp [this]
theorem IntsAt.grown {w w' : World} {a : Option Addr} {b n : Nat} {h : Nat → Int} {row : Option Nat} (hc : IntsAt w a n h) (hr : RowI w a b n) (hg : w.grownBy w' row) (hne : 0 < n → some b ≠ row) : IntsAt w' a n h := fun h0 => by
  obtain ⟨b', off, e, hlt, hcc⟩ := hc h0
  obtain ⟨e2, m, F, hm, hrow⟩ := hr h0
  have e3 := e.symm.trans e2
  simp only [Option.some.injEq, Addr.mk.injEq] at e3
  obtain ⟨rfl, _, _⟩ := e3
  refine ⟨b', off, e, Nat.lt_of_lt_of_le hlt hg.size, fun i hi => ?_⟩
  have hb := hg.block b' hlt (hne h0)
  exact (by simp only [World.cell?]; rw [hb] : w'.cell? ⟨b', off + i, none⟩ = w.cell? ⟨b', off + i, none⟩).trans (hcc i hi)

def mkI (k0 : Int) (i : Nat) : Int := k0 + i

set_option maxRecDepth 100000 in
set_option maxHeartbeats 1000000 in
theorem markInt64S_any (a : Option Addr) (b n cap : Nat) (k0 : Int) (w : World) (hn : n ≤ 1048576) (h0 : 0 ≤ k0) (h1 : k0 ≤ 1000000000000) (hr : RowI w a b n) :
    Calls Tryz.prog 38 #[.slice a n cap, .int .i64 k0] w fun e w' => e = .returned (.int .i64 (k0 + n)) ∧ w.grownBy w' (some b) ∧ IntsAt w' a n (mkI k0) := by
  go_enter Tryz.func38, Tryz.ntmps38
  go_wp2
  go_loopw [1, 5] (fun kk i wr => ∃ j : Nat, j ≤ n ∧ i = .int .i64 j ∧ kk = .int .i64 (k0 + j) ∧ w.grownBy wr (some b) ∧ RowI wr a b n ∧ (∀ i, i < j → wr.cell? ⟨b, i, none⟩ = some (.int .i64 (mkI k0 i)))) (fun _ i _ => n - (intOf i).toNat)
  case atStart => exact ⟨0, Nat.zero_le _, rfl, by simp, grown_refl _ _, hr, fun i hi => by omega⟩
  case round =>
    obtain ⟨j, hj, rfl, rfl, hg, hrow, hcells⟩ := hrel
    have HCL : Hid (∀ i, i < j → wr.cell? ⟨b, i, none⟩ = some (.int .i64 (mkI k0 i))) := hcells
    clear hcells
    by_cases hlt : j < n
    · obtain ⟨rfl, m, F, hm, hR⟩ := hrow (by omega)
      have c1 := hR.cell (i := j) (by omega)
      have f1 := hR.frozen j
      have HR : Hid (wr.rowIs b 2 m F) := hR
      clear hR hrow hr
      go_wp2
      go_roundw
      case rel =>
        have R1 := HR.out.set j (.int .i64 (k0 + j))
        refine ⟨j + 1, by omega, by go_num, by go_num, grown_set hg _ _, fun _ => ⟨rfl, m, _, hm, R1⟩, fun i hi => ?_⟩
        rw [R1.cell (i := i) (by omega)]
        by_cases e : i = j
        · subst e; rw [if_pos rfl]; rfl
        · rw [if_neg e, ← HR.out.cell (i := i) (by omega)]
          exact HCL.out i (by omega)
      case measure => simp [intOf]; omega
    · go_wp2
      go_ret
      have e : j = n := by omega
      subst e
      refine ⟨rfl, hg, fun h => ?_⟩
      obtain ⟨rfl, m, F, hm, hR⟩ := hrow h
      exact ⟨b, 0, rfl, hR.lt, fun i hi => by rw [Nat.zero_add]; exact HCL.out i hi⟩

set_option maxHeartbeats 1000000 in
theorem heldInt64S_any (a : Option Addr) (n cap : Nat) (k0 : Int) (w : World) (hn : n ≤ 1048576) (h0 : 0 ≤ k0) (h1 : k0 ≤ 1000000000000) (hc : IntsAt w a n (mkI k0)) :
    Calls Tryz.prog 42 #[.slice a n cap, .int .i64 k0] w fun e w' => e = .returned (.int .i64 (k0 + n)) ∧ w' = w := by
  go_enter Tryz.func42, Tryz.ntmps42
  go_wp2
  go_loop [1, 5] (fun kk i => ∃ j : Nat, j ≤ n ∧ i = .int .i64 j ∧ kk = .int .i64 (k0 + j)) (fun _ i => n - (intOf i).toNat)
  case atStart => exact ⟨0, Nat.zero_le _, rfl, by simp⟩
  case round =>
    obtain ⟨j, hj, rfl, rfl⟩ := hrel
    by_cases hlt : j < n
    · obtain ⟨b, off, rfl, hbl, hcc⟩ := hc (by omega)
      have c1 := hcc j hlt
      unfold mkI at c1
      clear hcc hc
      go_wp2
      go_round
      case rel => exact ⟨j + 1, by omega, by go_num, by go_num⟩
      case measure => simp [intOf]; omega
    · clear hc
      go_wp2
      go_ret
      have e : j = n := by omega
      subst e
      exact ⟨rfl, rfl⟩


theorem OwnI.of_block {w w' : World} {B : Nat} {v : Value} {l : List Int} (h : OwnI w B v l) (hb : ∀ g, v.ownBlock = some g → w'.heap[g]? = w.heap[g]?) : OwnI w' B v l := by
  refine ⟨h.1, ?_⟩
  rcases h.2 with hn | ⟨g, cap, cur, rfl, h1, h2, rest⟩
  · exact .inl hn
  · exact .inr ⟨g, cap, cur, rfl, h1, (hb g rfl).trans h2, rest⟩
theorem OwnI.below {w w' : World} {B : Nat} {v : Value} {l : List Int} (h : OwnI w B v l) (hb : Below w.heap.size w w') : OwnI w' B v l := h.of_block fun g hg => hb.block g (World.ownsRow.lt h g hg).2
theorem OwnI.mk {lo hi : Nat} {w w' : World} {B : Nat} {v : Value} {l : List Int} (h : OwnI w B v l) (hm : Mk lo hi w w') (hb : ∀ g, v.ownBlock = some g → g < lo ∨ hi ≤ g) : OwnI w' B v l := h.of_block fun g hg => hm.block g (World.ownsRow.lt h g hg).2 (hb g hg)
theorem Mk.below {lo hi : Nat} {w w0 w' : World} (h0 : Below w0.heap.size w0 w) (h : Mk lo hi w w') (hB : w0.heap.size ≤ lo) : Below w0.heap.size w0 w' :=
  ⟨h.os.trans h0.os, h.tape.trans h0.tape, h.output.trans h0.output, Nat.le_trans h0.size h.size, fun k hk => (h.block k (Nat.lt_of_lt_of_le hk h0.size) (.inl (by omega))).trans (h0.block k hk)⟩
theorem eqNum (B B' : Nat) (v v' : Value) (l : List Int) (w : World) (h : OwnI w B v l) (h' : OwnI w B' v' l) (hl : l.length ≤ 100000) :
    Calls Tryz.prog 61 #[v, v'] w fun e w' => e = .returned (.bool true) ∧ Below w.heap.size w w' := by
  obtain ⟨a, c, rfl⟩ := ownsRow_shape h
  obtain ⟨a', c', rfl⟩ := ownsRow_shape h'
  exact eqInt64S_true a a' l.length c c' (nthI l) w (by unfold maxLen; omega) (OwnI.lies h).ints (OwnI.lies h').ints
end Go.Proofs.YtjceaajnemgheaaGreatDoor
namespace Go.Proofs.YtjceaajnemgheaaGreatDoor
open Go Go.RowKit Go.Deep Go.Maps Go.BigFrame Go.Shelf

theorem own_cap {w : World} {B e size n c : Nat} {a : Option Addr} {xs : List Value} (h : w.ownsRow B e size (.slice a n c) n xs) : n ≤ c ∧ c ≤ maxLen := by
  rcases h.2 with ⟨hv, hn⟩ | ⟨g, cap, cur, hv, _, _, h1, h2, _⟩
  · simp only [Value.slice.injEq] at hv
    exact ⟨by omega, by rw [hv.2.2]; exact Nat.zero_le _⟩
  · simp only [Value.slice.injEq] at hv
    rw [hv.2.2]
    exact ⟨h1, h2⟩
theorem step_append_int0 {ops : Array Oper} {o : Oper} {a : Act} {w : World} {K : Act → World → Prop} {Q : Exit → Act → World → Prop} {E : Prop} (hgd : o.guard = none) (s x : Operand)
    (ho : o.op = .call { callee := .builtin .append, args := #[s, x], argTypes := #[35, 35] })
    (B : Nat) (g : Nat) (hs : a.eval s = .slice (some ⟨g, 0, none⟩) 0 0) (hown : OwnI w B (.slice (some ⟨g, 0, none⟩) 0 0) []) (ad : Option Addr) (m c : Nat) (f : Nat → Int) (hx : a.eval x = .slice ad m c) (hc : IntsAt w ad m f)
    (hm : m ≤ 1048576) (hB : B ≤ w.heap.size)
    (h : ∀ a' c' w', IntL.new B w' ⟨a', m, c', f⟩ → (m ≤ c' ∧ c' ≤ maxLen) → w.grownBy w' (some g) → K (a.put o.dst (.slice a' m c')) w') :
    if Region.wanted o (yielded ops a.tmps) = true then Oper.wp Tryz.prog o a w K Q else E := by
  have hw : Region.wanted o (yielded ops a.tmps) = true := by simp [Region.wanted, hgd]
  rw [if_pos hw]
  have L0 := hc.intL
  have el : ((List.range m).map f).length = m := by simp
  have L : LiesC w ad m (((List.range m).map f).map (Value.int .i64)) := by unfold NumL at L0; rw [el] at L0; exact L0
  refine wp_append_gen Tryz.underlying35 Tryz.info2 rfl (by omega) w s x ho B _ 0 [] hs hown ad m c (((List.range m).map f).map (Value.int .i64)) hx (by simp) L (fun u hu => by obtain ⟨y, _, rfl⟩ := List.mem_map.1 hu; rfl) (by omega) (by omega) hB fun a' c' w' h2 h3 _ => ?_
  rw [Nat.zero_add, List.nil_append] at h2
  rw [Nat.zero_add]
  refine h a' c' w' ?_ (own_cap h2) h3
  have ho' : OwnI w' B (.slice a' ((List.range m).map f).length c') ((List.range m).map f) := by unfold OwnI; rw [el]; exact h2
  have hi : IntsAt w' a' m f := fun h0 => by
    obtain ⟨b, off, e, hlt, hcc⟩ := (OwnI.lies ho').ints (by rw [el]; exact h0)
    refine ⟨b, off, e, hlt, fun i hi => ?_⟩
    have := hcc i (by rw [el]; exact hi)
    rw [this]
    simp [nthI, hi]
  exact ⟨⟨by unfold maxLen; simp only; omega, hi⟩, fun h0 => by have := row_of_own h2 h0; simpa using this⟩

theorem row_own_ne {w : World} {B b m g : Nat} {F : Nat → Value} (hr : w.rowIs b 58 m F) (ho : OwnI w B (.slice (some ⟨g, 0, none⟩) 0 0) []) : b ≠ g := fun e => by
  obtain ⟨cur, hb⟩ := own_block ho (g := g) rfl
  obtain ⟨c, h1, _⟩ := hr
  rw [e, hb] at h1
  simp at h1
theorem CatL.new.over {B : Nat} {w w' : World} {c : CatL} (h : c.new B w) (hs : w.heap.size ≤ w'.heap.size) (hb : ∀ b m F, w.rowIs b 58 m F → w'.heap[b]? = w.heap[b]?) : c.new B w' := h.of hs (fun b e hn => by
  obtain ⟨b', m, F, e', _, _, hr⟩ := h.2 hn
  rw [e] at e'
  cases e'
  exact hb b m F hr)

end Go.Proofs.YtjceaajnemgheaaGreatDoor
namespace Go.Proofs.YtjceaajnemgheaaGreatDoor

theorem findI_congr {ids ids' : Nat → Int} {n : Nat} (h : ∀ i, i < n → ids' i = ids i) (x : Int) : findI ids' n x = findI ids n x := by
  apply Option.ext
  intro j
  unfold findI
  rw [List.find?_range_eq_some, List.find?_range_eq_some]
  constructor
  · rintro ⟨h1, h2, h3⟩
    have hj := List.mem_range.1 h2
    rw [h j hj] at h1
    exact ⟨h1, h2, fun i hi => by have := h3 i hi; rw [h i (by omega)] at this; exact this⟩
  · rintro ⟨h1, h2, h3⟩
    have hj := List.mem_range.1 h2
    rw [← h j hj] at h1
    exact ⟨h1, h2, fun i hi => by have := h3 i hi; rw [← h i (by omega)] at this; exact this⟩
theorem par_congr {ids ids' ups ups' : Nat → Int} {n : Nat} (h : ∀ i, i < n → ids' i = ids i) (hu : ∀ i, i < n → ups' i = ups i) {i : Nat} (hi : i < n) : par ids' ups' n i = par ids ups n i := by
  unfold par
  rw [hu i hi, findI_congr h]
theorem parIt_congr {ids ids' ups ups' : Nat → Int} {n : Nat} (h : ∀ i, i < n → ids' i = ids i) (hu : ∀ i, i < n → ups' i = ups i) (m : Nat) {i : Nat} (hi : i < n) : parIt ids' ups' n m i = parIt ids ups n m i := by
  induction m generalizing i with
  | zero => rfl
  | succ m ih =>
    simp only [parIt]
    rw [par_congr h hu hi]
    cases e : par ids ups n i with
    | none => rfl
    | some j => exact ih (par_lt e)
theorem all_congr {n : Nat} {p q : Nat → Bool} (h : ∀ i, i < n → p i = q i) : (List.range n).all p = (List.range n).all q := by
  rw [Bool.eq_iff_iff]
  constructor
  · intro e; exact all_yes fun i hi => by rw [← h i hi]; exact all_out e i hi
  · intro e; exact all_yes fun i hi => by rw [h i hi]; exact all_out e i hi
theorem reachB_congr {ids ids' ups ups' : Nat → Int} {n : Nat} (h : ∀ i, i < n → ids' i = ids i) (hu : ∀ i, i < n → ups' i = ups i) : reachB ids' ups' n = reachB ids ups n := by
  unfold reachB
  refine all_congr fun i hi => ?_
  congr 1
  funext m
  rw [parIt_congr h hu m hi]
theorem kidsI_congr {ids ids' ups ups' : Nat → Int} {n : Nat} (h : ∀ i, i < n → ids' i = ids i) (hu : ∀ i, i < n → ups' i = ups i) {i : Nat} (hi : i < n) : kidsI ids' ups' n i = kidsI ids ups n i := by
  unfold kidsI
  apply List.filter_congr
  intro j hj
  rw [hu j (List.mem_range.1 hj), h i hi]

theorem thrOk_same {t u : ThrV} (h : t.same u) : thrOkV u = thrOkV t := by
  obtain ⟨h1, h2, ⟨a1, a2, a3⟩, h3, ⟨b1, b2, b3⟩, ⟨c1, c2⟩, h4⟩ := h
  simp only [thrOkV, h1, h2, h3, h4, a1, a2, a3, b1, b2, b3, c1, c2]
theorem objOk_same {t u : ObjV} (h : t.same u) : objOk u = objOk t := by
  obtain ⟨h1, h2, h3, h4, ⟨a1, a2, a3⟩, h5, ⟨d1, d2⟩, ⟨c1, c2⟩, h6, ⟨b1, b2, b3⟩⟩ := h
  simp only [objOk, kindB, h2, h4, h5, h6, a1, a2, a3, b1, b2, b3, c1, c2, d1, d2]
theorem look_congr {f g f' g' : Nat → Int} {n : Nat} (hf : ∀ i, i < n → f' i = f i) (hg : ∀ i, i < n → g' i = g i) (x : Int) : look f' g' n x = look f g n x := by
  induction n with
  | zero => rfl
  | succ n ih =>
    rw [look, look, hf n (by omega), hg n (by omega), ih (fun i hi => hf i (by omega)) (fun i hi => hg i (by omega))]

theorem kerOk_same {k l : KerV} (h : k.same l) : kerOk l = kerOk k := by
  obtain ⟨h1, h2, h3, h4⟩ := h
  have i1 : ∀ i, i < k.on → (l.O i).id = (k.O i).id := fun i hi => (h4 i hi).1
  have u1 : ∀ i, i < k.on → (l.O i).up = (k.O i).up := fun i hi => (h4 i hi).2.2.1
  have k1 : ∀ i, i < k.on → (l.O i).kind = (k.O i).kind := fun i hi => (h4 i hi).2.1
  have t1 : ∀ i, i < k.tn → (l.T i).id = (k.T i).id := fun i hi => (h2 i hi).1
  have m1 : ∀ i, i < k.tn → (l.T i).made = (k.T i).made := fun i hi => (h2 i hi).2.2.2.2.2.2
  by_cases h0 : 1 ≤ k.on
  · have e1 : thrsOk l.tn l.T = thrsOk k.tn k.T := by
      unfold thrsOk
      rw [h1]
      congr 1
      refine all_congr fun i hi => ?_
      unfold thrAt
      rw [thrOk_same (h2 i hi), t1 i hi]
      by_cases e : i = 0
      · subst e; rfl
      · rw [t1 (i - 1) (by omega)]
    have e2 : objsOk l.on l.O = objsOk k.on k.O := by
      unfold objsOk rootB
      rw [h3, i1 0 h0, u1 0 h0, k1 0 h0]
      congr 2
      refine all_congr fun i hi => ?_
      unfold objAt
      rw [objOk_same (h4 i hi), i1 0 h0, i1 i hi]
      by_cases e : i = 0
      · subst e; rfl
      · rw [i1 (i - 1) (by omega)]
    have e3 : numsOk l.tn l.T l.on l.O = numsOk k.tn k.T k.on k.O := by
      unfold numsOk
      rw [h3]
      refine all_congr fun i hi => ?_
      unfold numAt madeOf
      rw [i1 (i + 1) (by omega), h1, look_congr t1 m1]
    have e4 : upsOk l.on l.O = upsOk k.on k.O := by
      unfold upsOk
      rw [h3]
      refine all_congr fun i hi => ?_
      unfold boxAt
      rw [u1 (i + 1) (by omega), findI_congr i1]
      split
      · rename_i u hu; rw [k1 u (findI_some hu).1]
      · rfl
    unfold kerOk
    rw [e1, e2, e3, e4, h3, reachB_congr i1 u1]
  · rw [kerOk_few (k := k) (by omega), kerOk_few (k := l) (by rw [h3]; omega)]
end Go.Proofs.YtjceaajnemgheaaGreatDoor
namespace Go.Proofs.YtjceaajnemgheaaGreatDoor
open Go Go.RowKit Go.Deep Go.Maps

def zeroT : ThrV := ⟨0, 0, ⟨none, 0, 0, fun _ => 0, fun _ => 0⟩, 0, ⟨none, 0, 0, fun _ => 0, fun _ => 0⟩, ⟨none, 0, 0, fun _ => 0⟩, 0⟩
theorem zeroT_new (B : Nat) (w : World) : zeroT.new B w := ⟨⟨⟨Nat.zero_le _, fun h => by simp [zeroT] at h⟩, fun h => by simp [zeroT] at h⟩, ⟨⟨Nat.zero_le _, fun h => by simp [zeroT] at h⟩, fun h => by simp [zeroT] at h⟩, ⟨⟨Nat.zero_le _, fun h => by simp [zeroT] at h⟩, fun h => by simp [zeroT] at h⟩⟩
theorem zeroT_apart : zeroT.apart := fun _ _ _ h => by simp [zeroT] at h
theorem ThrV.same.refl (t : ThrV) : t.same t := ⟨rfl, rfl, ⟨rfl, rfl, rfl⟩, rfl, ⟨rfl, rfl, rfl⟩, ⟨rfl, rfl⟩, rfl⟩
def thrL (k : KerV) (x : Int) : Option Nat := if kerOk k = true then findI (fun i => (k.T i).id) k.tn x else none
def theT (k : KerV) (x : Int) : ThrV := match thrL k x with
  | some i => k.T i
  | none => zeroT
theorem ThrV.new.below {B : Nat} {w w' : World} {t : ThrV} (h : t.new B w) (hb : Below w.heap.size w w') : t.new B w' := ⟨h.1.below hb, h.2.1.below hb, h.2.2.below hb⟩
theorem ThrV.new.low {B B' : Nat} {w : World} {t : ThrV} (h : t.new B w) (hB : B' ≤ B) : t.new B' w := ⟨h.1.low hB, h.2.1.low hB, h.2.2.low hB⟩
def ThrAns (k : KerV) (x : Int) (w w' : World) (e : Ending) : Prop := ∃ g : ThrV, e = .returned (.tuple #[g.val, .bool (thrL k x).isSome]) ∧ (theT k x).same g ∧ g.new w.heap.size w' ∧ g.apart ∧ Below w.heap.size w w'
theorem ThrAns.none {k : KerV} {x : Int} {w w' : World} (h : thrL k x = .none) (hb : Below w.heap.size w w') : ThrAns k x w w' (.returned (.tuple #[.agg #[.int .i64 0, .int .i64 0, .slice .none 0 0, .int .i64 0, .slice .none 0 0, .slice .none 0 0, .int .i64 0], .bool false])) :=
  ⟨zeroT, by rw [h]; rfl, by rw [theT, h]; exact ThrV.same.refl _, zeroT_new _ _, zeroT_apart, hb⟩
def ThrAnsS (k : KerV) (x : Int) (w w' : World) (e : Ending) : Prop := ∃ g : ThrV, e = .returned (.tuple #[g.val, .bool (thrL k x).isSome]) ∧ (theT k x).same g ∧ g.new w.heap.size w' ∧ Below w.heap.size w w'
theorem ThrAnsS.none {k : KerV} {x : Int} {w w' : World} (h : thrL k x = .none) (hb : Below w.heap.size w w') : ThrAnsS k x w w' (.returned (.tuple #[.agg #[.int .i64 0, .int .i64 0, .slice .none 0 0, .int .i64 0, .slice .none 0 0, .slice .none 0 0, .int .i64 0], .bool false])) :=
  ⟨zeroT, by rw [h]; rfl, by rw [theT, h]; exact ThrV.same.refl _, zeroT_new _ _, hb⟩

end Go.Proofs.YtjceaajnemgheaaGreatDoor
