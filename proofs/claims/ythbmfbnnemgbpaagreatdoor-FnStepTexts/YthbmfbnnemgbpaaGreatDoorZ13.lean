/- ReadStep of the model. -/
import Derived.Test.YthbmfbnnemgbpaaGreatDoorZ12
import Derived.Test.YthbmfbnnemgbpaaGreatDoorZ2
import Derived.Test.YthbmfbnnemgbpaaGreatDoorZ5
namespace Go.Proofs.YthbmfbnnemgbpaaGreatDoor
open Go Go.RowKit Go.Deep Go.Maps
def ncells (l : List Int) : List Value := l.map (Value.int .i64)
def OwnN (w : World) (B : Nat) (v : Value) (l : List Int) : Prop := w.ownsRow B 2 1 v l.length (ncells l)
theorem OwnN.below {w w' : World} {B : Nat} {v : Value} {l : List Int} (h : OwnN w B v l) (hb : Below w.heap.size w w') : OwnN w' B v l := by
 refine ⟨h.1, ?_⟩
 rcases h.2 with hn | ⟨g, cap, cur, hv, hbg, hg, rest⟩
 ·exact .inl hn
 ·exact .inr ⟨g, cap, cur, hv, hbg, (hb.block g (Array.getElem?_eq_some_iff.1 hg).1).trans hg, rest⟩
theorem OwnN.alloc {w : World} {B : Nat} {v : Value} {l : List Int} (h : OwnN w B v l) (o : Obj) : OwnN (w.alloc o) B v l := World.ownsRow.alloc h o
theorem OwnN.made (w : World) (B : Nat) (hb : B ≤ w.heap.size) : OwnN (w.alloc (.cells #[] 2)) B (.slice (some ⟨w.heap.size, 0, none⟩) 0 0) [] := World.ownsRow_made w #[] 0 hb (Nat.zero_le _) rfl
theorem one_num {w : World} (x : Int) : LiesC (w.alloc (.cells #[.int .i64 x] 2)) (some ⟨w.heap.size, 0, none⟩) 1 [.int .i64 x] := fun _ =>
 ⟨w.heap.size, 0, rfl, by simp, fun j u hu => by
   cases j with
   | zero => simp at hu; subst hu; simp
   | succ j => simp at hu⟩
theorem wpList_append_num {ops : Array Oper} {rest : List Oper} {o : Oper} {a : Act} {Q : Exit → Act → World → Prop} (w : World) (hgd : o.guard = none) (s x : Operand)
 (ho : o.op = .call { callee := .builtin .append, args := #[s, x], argTypes := #[46, 46] })
 (B : Nat) (v : Value) (l : List Int) (hs : a.eval s = v) (hown : OwnN w B v l) (ad : Option Addr) (c : Nat) (r : Int) (hx : a.eval x = .slice ad 1 c) (hc : LiesC w ad 1 [.int .i64 r])
 (hm : l.length ≤ 2000000) (hB : B ≤ w.heap.size)
 (h : ∀ g c' w', OwnN w' B (.slice (some ⟨g, 0, none⟩) (l ++ [r]).length c') (l ++ [r]) → w.grownBy w' v.ownBlock → wpList Tryz.prog ops Q rest (a.put o.dst (.slice (some ⟨g, 0, none⟩) (l ++ [r]).length c')) w') : wpList Tryz.prog ops Q (o :: rest) a w := by
 refine wpList_plain hgd fun _ hK => wp_append_gen Tryz.underlying46 Tryz.info2 rfl (by omega) w s x ho B v l.length _ hs hown ad 1 c [.int .i64 r] hx (by simp) hc (fun u hu => by simp at hu; subst hu; rfl) (by omega) (by omega) hB fun a' c' w' h2 h3 _ => hK _ _ ?_
 have e1 : ncells l ++ [Value.int .i64 r] = ncells (l ++ [r]) := by simp [ncells]
 have e2 : l.length + 1 = (l ++ [r]).length := by simp
 rw [e1] at h2
 obtain ⟨g, cap, hv, _, _⟩ := World.ownsRow.form h2 (by omega)
 simp only [Value.slice.injEq] at hv
 obtain ⟨rfl, _, _⟩ := hv
 rw [e2] at h2 ⊢
 exact h g c' w' h2 h3
theorem OwnN.cells {w : World} {B c n g : Nat} {l : List Int} (h : OwnN w B (.slice (some ⟨g, 0, none⟩) n c) l) : ∀ j u, l[j]? = some u → w.cell? ⟨g, j, none⟩ = some (.int .i64 u) := fun j u hu => by
 have t := World.ownsRow.cells h (g := g) rfl j (.int .i64 u) (by simp [ncells, hu])
 rw [Go.WideShapes.add_plain] at t
 simpa using t
structure StepR where
 th : Int
 kind : Int
 id : Int
 to' : Int
 cat : Int
 d : ByteArray
 b1 : Int
 l1 : List (Int × Int)
 b2 : Int
 l2 : List (Int × Int)
 ok : Bool
def noS : StepR := ⟨0, 0, 0, 0, 0, ⟨#[]⟩, 0, [], 0, [], false⟩
def yesS (L : List UInt8) : StepR := ⟨nm 0 L, nm 1 L, nm 2 L, nm 3 L, nm 4 L, ⟨(rst 7 L).toArray⟩, (rl 5 L).1, (rl 5 L).2.1, (rl 6 L).1, (rl 6 L).2.1, true⟩
def readS (L : List UInt8) : StepR := if strictS L = true then yesS L else noS
def StepR.val (r : StepR) (a1 : Option Addr) (k1 : Nat) (a2 : Option Addr) (k2 : Nat) : Value := .tuple #[.agg #[.int .i64 r.th, .int .i64 r.kind, .int .i64 r.id, .int .i64 r.to', .int .i64 r.cat, .string r.d, .int .i64 r.b1, .slice a1 r.l1.length k1, .int .i64 r.b2, .slice a2 r.l2.length k2], .bool r.ok]
def SPost (r : StepR) (w : World) (e : Ending) (w' : World) : Prop :=
 ∃ a1 k1 a2 k2, e = .returned (r.val a1 k1 a2 k2) ∧ CatsAt w' a1 r.l1.length (fstAt r.l1) (sndAt r.l1) ∧ CatsAt w' a2 r.l2.length (fstAt r.l2) (sndAt r.l2) ∧ Below w.heap.size w w'
theorem SPost.no {r : StepR} {w w' : World} (hr : r = noS) (hb : Below w.heap.size w w') : SPost r w (.returned (noS.val none 0 none 0)) w' := by
 subst hr
 exact ⟨none, 0, none, 0, rfl, fun h => absurd h (by simp [noS]), fun h => absurd h (by simp [noS]), hb⟩
theorem SPost.yes {L : List UInt8} {r : StepR} {w w' : World} {a1 a2 : Option Addr} {k1 k2 : Nat} (hr : r = yesS L) (h1 : CatsAt w' a1 (rl 5 L).2.1.length (fstAt (rl 5 L).2.1) (sndAt (rl 5 L).2.1)) (h2 : CatsAt w' a2 (rl 6 L).2.1.length (fstAt (rl 6 L).2.1) (sndAt (rl 6 L).2.1)) (hb : Below w.heap.size w w') : SPost r w (.returned (.tuple #[.agg #[.int .i64 (nm 0 L), .int .i64 (nm 1 L), .int .i64 (nm 2 L), .int .i64 (nm 3 L), .int .i64 (nm 4 L), .string ⟨(rst 7 L).toArray⟩, .int .i64 (rl 5 L).1, .slice a1 (rl 5 L).2.1.length k1, .int .i64 (rl 6 L).1, .slice a2 (rl 6 L).2.1.length k2], .bool true])) w' := by
 subst hr
 refine ⟨a1, k1, a2, k2, ?_, ?_, ?_, hb⟩
 ·simp only [yesS, StepR.val]
 ·simp only [yesS]; exact h1
 ·simp only [yesS]; exact h2
set_option maxRecDepth 100000 in
theorem results10 (tmps : Array Value) (W : World) (P : Nat) (b : Bool) (x0 x1 x2 x3 x4 x5 x6 x7 x8 x9 : Value) (h : Blk W P (.cells #[x0, x1, x2, x3, x4, x5, x6, x7, x8, x9] 28)) (h2 : tmps[2]? = some (.pointer (some ⟨P, 0, none⟩))) (h3 : tmps[3]? = some (.bool b)) :
 (results Tryz.f12 tmps).run Tryz.prog W = .ok (.tuple #[.agg #[x0, x1, x2, x3, x4, x5, x6, x7, x8, x9], .bool b]) W := by
 obtain ⟨z0, z1, z2, z3, z4, z5, z6, z7, z8, z9⟩ := h.ten
 simp [results, Tryz.results12, go_sem, h2, h3, z0, z1, z2, z3, z4, z5, z6, z7, z8, z9]
end Go.Proofs.YthbmfbnnemgbpaaGreatDoor
namespace Go.Proofs.YthbmfbnnemgbpaaGreatDoor
theorem findI_congr {ids ids' : Nat → Int} {n : Nat} (h : ∀ i, i < n → ids' i = ids i) (x : Int) : findI ids' n x = findI ids n x := by
 apply Option.ext
 intro j
 unfold findI
 rw [List.find?_range_eq_some, List.find?_range_eq_some]
 constructor
 ·rintro ⟨h1, h2, h3⟩
  have hj := List.mem_range.1 h2
  rw [h j hj] at h1
  exact ⟨h1, h2, fun i hi => by have := h3 i hi; rw [h i (by omega)] at this; exact this⟩
 ·rintro ⟨h1, h2, h3⟩
  have hj := List.mem_range.1 h2
  rw [← h j hj] at h1
  exact ⟨h1, h2, fun i hi => by have := h3 i hi; rw [← h i (by omega)] at this; exact this⟩
theorem par_congr {ids ids' ups ups' : Nat → Int} {n : Nat} (h : ∀ i, i < n → ids' i = ids i) (hu : ∀ i, i < n → ups' i = ups i) {i : Nat} (hi : i < n) : par ids' ups' n i = par ids ups n i := by
 unfold par
 rw [hu i hi, findI_congr h]
theorem parIt_congr {ids ids' ups ups' : Nat → Int} {n : Nat} (h : ∀ i, i < n → ids' i = ids i) (hu : ∀ i, i < n → ups' i = ups i) (m : Nat) {i : Nat} (hi : i < n) : parIt ids' ups' n m i = parIt ids ups n m i := by
 induction m generalizing i with
 | zero => rfl
 | succ m ih =>
  simp only [parIt]
  rw [par_congr h hu hi]
  cases e : par ids ups n i with
  | none => rfl
  | some j => exact ih (par_lt e)
theorem all_congr {n : Nat} {p q : Nat → Bool} (h : ∀ i, i < n → p i = q i) : (List.range n).all p = (List.range n).all q := by
 rw [Bool.eq_iff_iff]
 constructor
 ·intro e; exact all_yes fun i hi => by rw [← h i hi]; exact all_out e i hi
 ·intro e; exact all_yes fun i hi => by rw [h i hi]; exact all_out e i hi
theorem reachB_congr {ids ids' ups ups' : Nat → Int} {n : Nat} (h : ∀ i, i < n → ids' i = ids i) (hu : ∀ i, i < n → ups' i = ups i) : reachB ids' ups' n = reachB ids ups n := by
 unfold reachB
 refine all_congr fun i hi => ?_
 congr 1
 funext m
 rw [parIt_congr h hu m hi]
theorem thrOk_same {t u : ThrV} (h : t.same u) : thrOkV u = thrOkV t := by
 obtain ⟨h1, h2, ⟨a1, a2, a3⟩, h3, ⟨b1, b2, b3⟩, ⟨c1, c2⟩, h4⟩ := h
 simp only [thrOkV, h1, h2, h3, h4, a1, a2, a3, b1, b2, b3, c1, c2]
theorem objOk_same {t u : ObjV} (h : t.same u) : objOk u = objOk t := by
 obtain ⟨h1, h2, h3, h4, ⟨a1, a2, a3⟩, h5, ⟨d1, d2⟩, ⟨c1, c2⟩, h6, ⟨b1, b2, b3⟩⟩ := h
 simp only [objOk, kindB, h2, h4, h5, h6, a1, a2, a3, b1, b2, b3, c1, c2, d1, d2]
theorem look_congr {f g f' g' : Nat → Int} {n : Nat} (hf : ∀ i, i < n → f' i = f i) (hg : ∀ i, i < n → g' i = g i) (x : Int) : look f' g' n x = look f g n x := by
 induction n with
 | zero => rfl
 | succ n ih =>
  rw [look, look, hf n (by omega), hg n (by omega), ih (fun i hi => hf i (by omega)) (fun i hi => hg i (by omega))]
theorem kerOk_same {k l : KerV} (h : k.same l) : kerOk l = kerOk k := by
 obtain ⟨h1, h2, h3, h4⟩ := h
 have i1 : ∀ i, i < k.on → (l.O i).id = (k.O i).id := fun i hi => (h4 i hi).1
 have u1 : ∀ i, i < k.on → (l.O i).up = (k.O i).up := fun i hi => (h4 i hi).2.2.1
 have k1 : ∀ i, i < k.on → (l.O i).kind = (k.O i).kind := fun i hi => (h4 i hi).2.1
 have t1 : ∀ i, i < k.tn → (l.T i).id = (k.T i).id := fun i hi => (h2 i hi).1
 have m1 : ∀ i, i < k.tn → (l.T i).made = (k.T i).made := fun i hi => (h2 i hi).2.2.2.2.2.2
 by_cases h0 : 1 ≤ k.on
 ·have e1 : thrsOk l.tn l.T = thrsOk k.tn k.T := by
   unfold thrsOk
   rw [h1]
   congr 1
   refine all_congr fun i hi => ?_
   unfold thrAt
   rw [thrOk_same (h2 i hi), t1 i hi]
   by_cases e : i = 0
   ·subst e; rfl
   ·rw [t1 (i - 1) (by omega)]
  have e2 : objsOk l.on l.O = objsOk k.on k.O := by
   unfold objsOk rootB
   rw [h3, i1 0 h0, u1 0 h0, k1 0 h0]
   congr 2
   refine all_congr fun i hi => ?_
   unfold objAt
   rw [objOk_same (h4 i hi), i1 0 h0, i1 i hi]
   by_cases e : i = 0
   ·subst e; rfl
   ·rw [i1 (i - 1) (by omega)]
  have e3 : numsOk l.tn l.T l.on l.O = numsOk k.tn k.T k.on k.O := by
   unfold numsOk
   rw [h3]
   refine all_congr fun i hi => ?_
   unfold numAt madeOf
   rw [i1 (i + 1) (by omega), h1, look_congr t1 m1]
  have e4 : upsOk l.on l.O = upsOk k.on k.O := by
   unfold upsOk
   rw [h3]
   refine all_congr fun i hi => ?_
   unfold boxAt
   rw [u1 (i + 1) (by omega), findI_congr i1]
   split
   ·rename_i u hu; rw [k1 u (findI_some hu).1]
   ·rfl
  unfold kerOk
  rw [e1, e2, e3, e4, h3, reachB_congr i1 u1]
 ·rw [kerOk_few (k := k) (by omega), kerOk_few (k := l) (by rw [h3]; omega)]
end Go.Proofs.YthbmfbnnemgbpaaGreatDoor
namespace Go.Proofs.YthbmfbnnemgbpaaGreatDoor
inductive Up2 (n : Nat) (O : Nat → ObjV) : Int → Prop
 | root : Up2 n O (O 0).id
 | up {i : Nat} (h0 : 0 < i) (hi : i < n) (h : Up2 n O (O i).up) : Up2 n O (O i).id
structure KOk (k : KerV) : Prop where
 thr : thrsOk k.tn k.T = true
 lo : 1 ≤ k.on
 root : rootB (k.O 0) = true
 obj : ∀ i, i < k.on → objOk (k.O i) = true
 rise : Rises (fun i => (k.O i).id) k.on
 num : ∀ i, 0 < i → i < k.on → numAt k.tn k.T (k.O i).id = true
 box : ∀ i, 0 < i → i < k.on → ∃ p, p < k.on ∧ (k.O p).id = (k.O i).up ∧ (k.O p).kind = 3
 reach : ∀ i, i < k.on → Up2 k.on k.O (k.O i).id
theorem rises_of {ids : Nat → Int} {n : Nat} (h : ∀ i, 0 < i → i < n → ids (i - 1) < ids i) : Rises ids n := by
 intro i j hij hj
 induction j with
 | zero => omega
 | succ j ih =>
  have h1 := h (j + 1) (by omega) hj
  have e : j + 1 - 1 = j := by omega
  rw [e] at h1
  by_cases e1 : i = j
  ·subst e1; exact h1
  ·have := ih (by omega) (by omega); omega
theorem boxAt_iff {n : Nat} {O : Nat → ObjV} (h : Rises (fun i => (O i).id) n) {x : Int} : boxAt n O x = true ↔ ∃ p, p < n ∧ (O p).id = x ∧ (O p).kind = 3 := by
 unfold boxAt
 constructor
 ·intro hh
  cases e : findI (fun i => (O i).id) n x with
  | none => rw [e] at hh; cases hh
  | some u =>
   rw [e] at hh
   obtain ⟨h1, h2⟩ := findI_some e
   exact ⟨u, h1, h2, by simpa using hh⟩
 ·rintro ⟨p, h1, h2, h3⟩
  have e := findI_eq h h1
  rw [h2] at e
  rw [e]
  simpa using h3
theorem up2_of {n : Nat} {O : Nat → ObjV} : ∀ {m i : Nat}, i < n → parIt (fun i => (O i).id) (fun i => (O i).up) n m i = some 0 → Up2 n O (O i).id
 | 0, i, _, h => by
  simp only [parIt, Option.some.injEq] at h
  subst h
  exact .root
 | m + 1, i, hi, h => by
  simp only [parIt] at h
  cases e : par (fun i => (O i).id) (fun i => (O i).up) n i with
  | none => rw [e] at h; cases h
  | some j =>
   rw [e] at h
   have hj := par_lt e
   have r := up2_of hj h
   unfold par at e
   split at e
   ·cases e
   ·rename_i h0
    have := (findI_some e).2
    simp only at this
    rw [this] at r
    exact .up (by omega) hi r
theorem up2_mem {n : Nat} {O : Nat → ObjV} (h0 : 0 < n) {x : Int} (hx : Up2 n O x) : ∃ p, p < n ∧ (O p).id = x := by
 induction hx with
 | root => exact ⟨0, h0, rfl⟩
 | @up q _ hq _ _ => exact ⟨q, hq, rfl⟩
theorem up2_par {n : Nat} {O : Nat → ObjV} (h : Rises (fun i => (O i).id) n) (h0 : 0 < n) {x : Int} (hx : Up2 n O x) : ∀ i, i < n → (O i).id = x → ∃ m, parIt (fun i => (O i).id) (fun i => (O i).up) n m i = some 0 := by
 induction hx with
 | root =>
  intro i hi e
  have : i = 0 := h.inj hi h0 e
  subst this
  exact ⟨0, rfl⟩
 | @up j hj0 hj hu ih =>
  intro i hi e
  have : i = j := h.inj hi hj e
  subst this
  -- the parent is one of them
  have hp : ∃ p, p < n ∧ (O p).id = (O i).up := up2_mem h0 hu
  obtain ⟨p, hp1, hp2⟩ := hp
  obtain ⟨m, hm⟩ := ih p hp1 hp2
  refine ⟨m + 1, ?_⟩
  have e1 : par (fun i => (O i).id) (fun i => (O i).up) n i = some p := by
   unfold par
   rw [if_neg (by omega)]
   have := findI_eq h hp1
   rw [hp2] at this
   exact this
  simp only [parIt, e1, Option.bind_some]
  exact hm
theorem numAt_parts {n : Nat} {T : Nat → ThrV} (h : thrsOk n T = true) {id : Int} (hn : numAt n T id = true) : ∃ t, t < n ∧ (T t).id = id / 1000 ∧ 1 ≤ id % 1000 ∧ id % 1000 ≤ (T t).made := by
 cases e : findI (fun i => (T i).id) n (id / 1000) with
 | none => rw [numAt_none h e] at hn; cases hn
 | some t =>
  obtain ⟨h1, h2⟩ := findI_some e
  rw [numAt_some h e] at hn
  have := inB_iff.1 hn
  exact ⟨t, h1, h2, this.1, this.2⟩
theorem numAt_of {n : Nat} {T : Nat → ThrV} (h : thrsOk n T = true) {id : Int} {t : Nat} (h1 : t < n) (h2 : (T t).id = id / 1000) (h3 : 1 ≤ id % 1000) (h4 : id % 1000 ≤ (T t).made) : numAt n T id = true := by
 have e := findI_eq (thr_rises h) h1
 rw [h2] at e
 rw [numAt_some h e]
 exact inB_iff.2 ⟨h3, h4⟩
theorem KOk.few {k : KerV} (h : KOk k) : k.on ≤ 271 := by
 have lo := h.lo
 let g : Nat → Nat := fun i => (((k.O (i + 1)).id / 1000 - 1) * 30 + ((k.O (i + 1)).id % 1000 - 1)).toNat
 have hg : ∀ i, i < k.on - 1 → 1 ≤ (k.O (i + 1)).id / 1000 ∧ (k.O (i + 1)).id / 1000 ≤ 9 ∧ 1 ≤ (k.O (i + 1)).id % 1000 ∧ (k.O (i + 1)).id % 1000 ≤ 30 := fun i hi => by
  obtain ⟨t, t1, t2, t3, t4⟩ := numAt_parts h.thr (h.num (i + 1) (by omega) (by omega))
  obtain ⟨_, _, hT⟩ := thrsOk_out h.thr
  have hk := thrAt_ok (hT t t1)
  have h1 := thrOk_id hk
  have h2 := thrOk_made hk
  omega
 have hl : ((List.range (k.on - 1)).map g).Nodup := by
  rw [List.Nodup, List.pairwise_map]
  refine List.Pairwise.imp_of_mem ?_ (List.pairwise_lt_range (n := k.on - 1))
  intro a b ha hb hab e
  have ha' := List.mem_range.1 ha
  have hb' := List.mem_range.1 hb
  have ga := hg a ha'
  have gb := hg b hb'
  have hr := h.rise (a + 1) (b + 1) (by omega) (by omega)
  simp only at hr
  have e' : g a = g b := e
  simp only [g] at e'
  omega
 have := nodup_len (n := 270) hl (fun x hx => by
  obtain ⟨i, hi, rfl⟩ := List.mem_map.1 hx
  have gi := hg i (List.mem_range.1 hi)
  show g i < 270
  simp only [g]
  omega)
 simp at this
 omega
theorem kerOk_iff {k : KerV} : kerOk k = true ↔ KOk k := by
 constructor
 ·intro h
  have h1 : thrsOk k.tn k.T = true := by
   cases e : thrsOk k.tn k.T with
   | true => rfl
   | false => rw [kerOk_thr e] at h; cases h
  have h2 : 1 ≤ k.on ∧ k.on ≤ 271 := by
   by_cases e : 1 ≤ k.on ∧ k.on ≤ 271
   ·exact e
   ·rw [kerOk_few e] at h; cases h
  rw [kerOk_sp h1 h2.1 h2.2, Bool.and_eq_true] at h
  have hs := all_out h.1
  have hat : ∀ i, i < k.on → objOk (k.O i) = true ∧ (if i = 0 then rootB (k.O 0) else decide ((k.O (i - 1)).id < (k.O i).id) && numAt k.tn k.T (k.O i).id && boxAt k.on k.O (k.O i).up) = true := fun i hi => by
   have := hs i hi
   unfold spAt at this
   exact Bool.and_eq_true_iff.1 this
  have hrest : ∀ i, 0 < i → i < k.on → (k.O (i - 1)).id < (k.O i).id ∧ numAt k.tn k.T (k.O i).id = true ∧ boxAt k.on k.O (k.O i).up = true := fun i h0 hi => by
   have := (hat i hi).2
   rw [if_neg (by omega)] at this
   simp only [Bool.and_eq_true, decide_eq_true_eq] at this
   exact ⟨this.1.1, this.1.2, this.2⟩
  have hr : Rises (fun i => (k.O i).id) k.on := rises_of fun i h0 hi => (hrest i h0 hi).1
  refine ⟨h1, h2.1, ?_, fun i hi => (hat i hi).1, hr, fun i h0 hi => (hrest i h0 hi).2.1, fun i h0 hi => (boxAt_iff hr).1 (hrest i h0 hi).2.2, fun i hi => ?_⟩
  ·have := (hat 0 (by omega)).2
   rw [if_pos rfl] at this
   exact this
  ·obtain ⟨m, _, hm⟩ := reachB_iff.1 h.2 i hi
   exact up2_of hi hm
 ·intro h
  have h2 := h.few
  rw [kerOk_sp h.thr h.lo h2, Bool.and_eq_true]
  refine ⟨all_yes fun i hi => ?_, reachB_iff.2 fun i hi => ?_⟩
  ·unfold spAt
   rw [h.obj i hi, Bool.true_and]
   by_cases e : i = 0
   ·rw [if_pos e]; exact h.root
   ·rw [if_neg e]
    have hr := h.rise (i - 1) i (by omega) hi
    simp only at hr
    rw [h.num i (by omega) hi, (boxAt_iff h.rise).2 (h.box i (by omega) hi), decide_eq_true hr]
    rfl
  ·obtain ⟨m, hm⟩ := up2_par h.rise (by have := h.lo; omega) (h.reach i hi) i hi rfl
   exact ⟨m, height noCyc_zero hi hm, hm⟩
end Go.Proofs.YthbmfbnnemgbpaaGreatDoor
namespace Go.Proofs.YthbmfbnnemgbpaaGreatDoor
def KerV.setT (k : KerV) (t : Nat) (x : ThrV) : KerV := { k with T := fun j => if j = t then x else k.T j }
def KerV.setO (k : KerV) (i : Nat) (x : ObjV) : KerV := { k with O := fun j => if j = i then x else k.O j }
theorem thrsOk_of {n : Nat} {T : Nat → ThrV} (h1 : 1 ≤ n) (h2 : n ≤ 9) (h : ∀ i, i < n → thrOkV (T i) = true) (hr : Rises (fun i => (T i).id) n) : thrsOk n T = true := by
 unfold thrsOk
 simp only [Bool.and_eq_true, decide_eq_true_eq]
 refine ⟨⟨h1, h2⟩, all_yes fun i hi => ?_⟩
 unfold thrAt
 rw [h i hi, Bool.true_and]
 by_cases e : i = 0
 ·subst e; rfl
 ·have := hr (i - 1) i (by omega) hi
  simp only at this
  simp [this]
theorem KOk.setT {k : KerV} (h : KOk k) {t : Nat} {x : ThrV} (hx : thrOkV x = true) (hid : x.id = (k.T t).id) (hm : (k.T t).made ≤ x.made) : KOk (k.setT t x) := by
 obtain ⟨n1, n9, hT⟩ := thrsOk_out h.thr
 have ids : ∀ j, ((k.setT t x).T j).id = (k.T j).id := fun j => by
  show (if j = t then x else k.T j).id = _
  split
  ·rename_i e; rw [e, hid]
  ·rfl
 have mades : ∀ j, (k.T j).made ≤ ((k.setT t x).T j).made := fun j => by
  show _ ≤ (if j = t then x else k.T j).made
  split
  ·rename_i e; rw [e]; exact hm
  ·exact Int.le_refl _
 have hthr : thrsOk (k.setT t x).tn (k.setT t x).T = true := by
  refine thrsOk_of n1 n9 (fun i hi => ?_) (fun i j hij hj => ?_)
  ·show thrOkV (if i = t then x else k.T i) = true
   split
   ·exact hx
   ·exact thrAt_ok (hT i hi)
  ·simp only
   rw [ids, ids]
   exact thr_rises h.thr i j hij hj
 refine ⟨hthr, h.lo, h.root, h.obj, h.rise, fun i h0 hi => ?_, h.box, h.reach⟩
 obtain ⟨u, u1, u2, u3, u4⟩ := numAt_parts h.thr (h.num i h0 hi)
 exact numAt_of hthr (t := u) u1 ((ids u).trans u2) u3 (Int.le_trans u4 (mades u))
theorem up2_congr {n : Nat} {O P : Nat → ObjV} (h0 : (P 0).id = (O 0).id) (h1 : ∀ i, i < n → (P i).id = (O i).id ∧ (P i).up = (O i).up) {x : Int} (hx : Up2 n O x) : Up2 n P x := by
 induction hx with
 | root => rw [← h0]; exact .root
 | @up i i0 hi _ ih =>
  rw [← (h1 i hi).1]
  refine .up i0 hi ?_
  rw [(h1 i hi).2]
  exact ih
theorem KOk.setO {k : KerV} (h : KOk k) {i : Nat} {x : ObjV} (hx : objOk x = true) (h1 : x.id = (k.O i).id) (h2 : x.kind = (k.O i).kind) (h3 : x.up = (k.O i).up) : KOk (k.setO i x) := by
 have same : ∀ j, ((k.setO i x).O j).id = (k.O j).id ∧ ((k.setO i x).O j).kind = (k.O j).kind ∧ ((k.setO i x).O j).up = (k.O j).up := fun j => by
  show (if j = i then x else k.O j).id = _ ∧ (if j = i then x else k.O j).kind = _ ∧ (if j = i then x else k.O j).up = _
  split
  ·rename_i e; rw [e]; exact ⟨h1, h2, h3⟩
  ·exact ⟨rfl, rfl, rfl⟩
 refine ⟨h.thr, h.lo, ?_, fun j hj => ?_, fun a b hab hb => ?_, fun j j0 hj => ?_, fun j j0 hj => ?_, fun j hj => ?_⟩
 ·have := h.root
  unfold rootB at this ⊢
  rw [(same 0).1, (same 0).2.1, (same 0).2.2]
  exact this
 ·show objOk (if j = i then x else k.O j) = true
  split
  ·exact hx
  ·exact h.obj j hj
 ·simp only
  rw [(same a).1, (same b).1]
  exact h.rise a b hab hb
 ·rw [(same j).1]; exact h.num j j0 hj
 ·obtain ⟨p, p1, p2, p3⟩ := h.box j j0 hj
  exact ⟨p, p1, by rw [(same p).1, (same j).2.2]; exact p2, by rw [(same p).2.1]; exact p3⟩
 ·rw [(same j).1]
  exact up2_congr (same 0).1 (fun i _ => ⟨(same i).1, (same i).2.2⟩) (h.reach j hj)
def insO (O : Nat → ObjV) (p : Nat) (x : ObjV) (j : Nat) : ObjV := if j < p then O j else if j = p then x else O (j - 1)
def KerV.ins (k : KerV) (p : Nat) (x : ObjV) : KerV := { k with on := k.on + 1, O := insO k.O p x }
theorem insO_lt {O : Nat → ObjV} {p j : Nat} {x : ObjV} (h : j < p) : insO O p x j = O j := by unfold insO; rw [if_pos h]
theorem insO_at {O : Nat → ObjV} {p : Nat} {x : ObjV} : insO O p x p = x := by unfold insO; rw [if_neg (Nat.lt_irrefl _), if_pos rfl]
theorem insO_gt {O : Nat → ObjV} {p j : Nat} {x : ObjV} (h : p < j) : insO O p x j = O (j - 1) := by unfold insO; rw [if_neg (by omega), if_neg (by omega)]
theorem insO_old {O : Nat → ObjV} {p : Nat} {x : ObjV} (j : Nat) : ∃ i, i ≤ j + 1 ∧ j ≤ i ∧ insO O p x i = O j ∧ (0 < j → 0 < i) := by
 by_cases e : j < p
 ·exact ⟨j, by omega, by omega, insO_lt e, fun h => h⟩
 ·refine ⟨j + 1, by omega, by omega, ?_, fun _ => by omega⟩
  rw [insO_gt (by omega)]
  rfl
theorem KOk.ins {k : KerV} (h : KOk k) {p : Nat} {x : ObjV} (p0 : 0 < p) (hp : p ≤ k.on) (hlo : ∀ j, j < p → (k.O j).id < x.id) (hhi : ∀ j, p ≤ j → j < k.on → x.id < (k.O j).id) (hx : objOk x = true) (hn : numAt k.tn k.T x.id = true) (hb : ∃ q, q < k.on ∧ (k.O q).id = x.up ∧ (k.O q).kind = 3) : KOk (k.ins p x) := by
 have e0 : insO k.O p x 0 = k.O 0 := insO_lt p0
 have cases3 : ∀ j, j < k.on + 1 → (j < p ∧ insO k.O p x j = k.O j) ∨ (j = p ∧ insO k.O p x j = x) ∨ (p < j ∧ j - 1 < k.on ∧ insO k.O p x j = k.O (j - 1)) := fun j hj => by
  by_cases e1 : j < p
  ·exact .inl ⟨e1, insO_lt e1⟩
  ·by_cases e2 : j = p
   ·exact .inr (.inl ⟨e2, by rw [e2]; exact insO_at⟩)
   ·exact .inr (.inr ⟨by omega, by omega, insO_gt (by omega)⟩)
 have mono : ∀ {y : Int}, Up2 k.on k.O y → Up2 (k.on + 1) (insO k.O p x) y := fun {y} hy => by
  induction hy with
  | root => rw [← e0]; exact .root
  | @up i i0 hi _ ih =>
   obtain ⟨j, j1, _, j2, j3⟩ := insO_old (O := k.O) (p := p) (x := x) i
   rw [← j2]
   refine .up (j3 i0) (by omega) ?_
   rw [j2]
   exact ih
 obtain ⟨q, q1, q2, q3⟩ := hb
 refine ⟨h.thr, by show 1 ≤ k.on + 1; omega, ?_, fun j hj => ?_, rises_of fun j j0 hj => ?_, fun j j0 hj => ?_, fun j j0 hj => ?_, fun j hj => ?_⟩
 ·show rootB (insO k.O p x 0) = true
  rw [e0]; exact h.root
 ·show objOk (insO k.O p x j) = true
  rcases cases3 j hj with ⟨c, e⟩ | ⟨_, e⟩ | ⟨_, c, e⟩ <;> rw [e]
  ·exact h.obj j (by omega)
  ·exact hx
  ·exact h.obj _ c
 ·show (insO k.O p x (j - 1)).id < (insO k.O p x j).id
  rcases cases3 j hj with ⟨c, e⟩ | ⟨c, e⟩ | ⟨c, c2, e⟩
  ·rw [e, insO_lt (by omega)]
   exact h.rise (j - 1) j (by omega) (by omega)
  ·rw [e, insO_lt (by omega)]
   exact hlo _ (by omega)
  ·rw [e]
   by_cases e3 : j - 1 = p
   ·rw [e3, insO_at]
    exact hhi p (Nat.le_refl _) (by omega)
   ·rw [insO_gt (by omega)]
    exact h.rise (j - 1 - 1) (j - 1) (by omega) (by omega)
 ·show numAt k.tn k.T (insO k.O p x j).id = true
  rcases cases3 j hj with ⟨c, e⟩ | ⟨_, e⟩ | ⟨c, c2, e⟩ <;> rw [e]
  ·exact h.num j j0 (by omega)
  ·exact hn
  ·exact h.num (j - 1) (by omega) c2
 ·have par : ∀ {y : Int}, (∃ q, q < k.on ∧ (k.O q).id = y ∧ (k.O q).kind = 3) → ∃ r, r < k.on + 1 ∧ (insO k.O p x r).id = y ∧ (insO k.O p x r).kind = 3 := fun ⟨q, q1, q2, q3⟩ => by
   obtain ⟨r, r1, _, r2, _⟩ := insO_old (O := k.O) (p := p) (x := x) q
   exact ⟨r, by omega, by rw [r2]; exact q2, by rw [r2]; exact q3⟩
  show ∃ r, r < k.on + 1 ∧ (insO k.O p x r).id = (insO k.O p x j).up ∧ (insO k.O p x r).kind = 3
  rcases cases3 j hj with ⟨c, e⟩ | ⟨_, e⟩ | ⟨c, c2, e⟩ <;> rw [e]
  ·exact par (h.box j j0 (by omega))
  ·exact par ⟨q, q1, q2, q3⟩
  ·exact par (h.box (j - 1) (by omega) c2)
 ·show Up2 (k.on + 1) (insO k.O p x) (insO k.O p x j).id
  rcases cases3 j hj with ⟨c, e⟩ | ⟨c, e⟩ | ⟨c, c2, e⟩
  ·rw [e]; exact mono (h.reach j (by omega))
  ·refine .up (by omega) hj ?_
   rw [e, ← q2]
   exact mono (h.reach q q1)
  ·rw [e]; exact mono (h.reach _ c2)
def keptL (n : Nat) (keep : Nat → Bool) : List Nat := (List.range n).filter keep
def KerV.cut (k : KerV) (keep : Nat → Bool) : KerV := { k with on := (keptL k.on keep).length, O := fun j => k.O ((keptL k.on keep).getD j 0) }
theorem keptL_at {n : Nat} {keep : Nat → Bool} {j : Nat} (hj : j < (keptL n keep).length) : (keptL n keep).getD j 0 < n ∧ keep ((keptL n keep).getD j 0) = true := by
 have e : (keptL n keep).getD j 0 = (keptL n keep)[j] := by simp [List.getD, hj]
 have hm := List.getElem_mem hj
 rw [e]
 obtain ⟨h1, h2⟩ := List.mem_filter.1 hm
 exact ⟨List.mem_range.1 h1, h2⟩
theorem keptL_find {n : Nat} {keep : Nat → Bool} {i : Nat} (hi : i < n) (hk : keep i = true) : ∃ j, j < (keptL n keep).length ∧ (keptL n keep).getD j 0 = i := by
 have hm : i ∈ keptL n keep := List.mem_filter.2 ⟨List.mem_range.2 hi, hk⟩
 obtain ⟨j, hj, e⟩ := List.getElem_of_mem hm
 exact ⟨j, hj, by simp [List.getD, hj, e]⟩
theorem keptL_rise {n : Nat} {keep : Nat → Bool} {a b : Nat} (hab : a < b) (hb : b < (keptL n keep).length) : (keptL n keep).getD a 0 < (keptL n keep).getD b 0 := by
 have hp : (keptL n keep).Pairwise (· < ·) := List.Pairwise.sublist List.filter_sublist (List.pairwise_lt_range (n := n))
 have := List.pairwise_iff_getElem.1 hp a b (by omega) hb hab
 simpa [List.getD, hb, show a < (keptL n keep).length by omega] using this
theorem KOk.cut {k : KerV} (h : KOk k) {keep : Nat → Bool} (k0 : keep 0 = true) (hup : ∀ i p, 0 < i → i < k.on → p < k.on → (k.O p).id = (k.O i).up → keep i = true → keep p = true) : KOk (k.cut keep) := by
 have lo := h.lo
 obtain ⟨z, z1, z2⟩ := keptL_find (keep := keep) (show 0 < k.on by omega) k0
 have zz : z = 0 := by
  by_cases e : z = 0
  ·exact e
  ·have := keptL_rise (n := k.on) (keep := keep) (a := 0) (b := z) (by omega) z1
   omega
 rw [zz] at z1 z2
 have eO : ∀ j, (k.cut keep).O j = k.O ((keptL k.on keep).getD j 0) := fun _ => rfl
 have e0 : (k.cut keep).O 0 = k.O 0 := by rw [eO, z2]
 have pos : ∀ {j}, 0 < j → j < (keptL k.on keep).length → 0 < (keptL k.on keep).getD j 0 := fun {j} j0 hj => by
  have := keptL_rise (n := k.on) (keep := keep) (a := 0) (b := j) j0 hj
  omega
 have stay : ∀ {y : Int}, Up2 k.on k.O y → ∀ i, i < k.on → (k.O i).id = y → keep i = true → Up2 (keptL k.on keep).length (k.cut keep).O y := fun {y} hy => by
  induction hy with
  | root => intro i _ _ _; rw [← e0]; exact .root
  | @up j j0 hj hu ih =>
   intro i hi e hk
   have : i = j := h.rise.inj hi hj e
   subst this
   obtain ⟨m, m1, m2⟩ := keptL_find (keep := keep) hi hk
   have em : (k.cut keep).O m = k.O i := by rw [eO, m2]
   rw [← em]
   have m0 : 0 < m := by
    by_cases e : m = 0
    ·rw [e, z2] at m2; omega
    ·omega
   refine .up m0 m1 ?_
   rw [em]
   obtain ⟨p, p1, p2, _⟩ := h.box i j0 hj
   exact ih p p1 p2 (hup i p j0 hj p1 p2 hk)
 refine ⟨h.thr, z1, ?_, fun j hj => ?_, fun a b hab hb => ?_, fun j j0 hj => ?_, fun j j0 hj => ?_, fun j hj => ?_⟩
 ·rw [e0]; exact h.root
 ·rw [eO]; exact h.obj _ (keptL_at hj).1
 ·simp only
  rw [eO, eO]
  exact h.rise _ _ (keptL_rise hab hb) (keptL_at hb).1
 ·rw [eO]; exact h.num _ (pos j0 hj) (keptL_at hj).1
 ·rw [eO]
  obtain ⟨p, p1, p2, p3⟩ := h.box _ (pos j0 hj) (keptL_at hj).1
  obtain ⟨m, m1, m2⟩ := keptL_find (keep := keep) p1 (hup _ p (pos j0 hj) (keptL_at hj).1 p1 p2 (keptL_at hj).2)
  exact ⟨m, m1, by rw [eO, m2]; exact p2, by rw [eO, m2]; exact p3⟩
 ·rw [eO]
  exact stay (h.reach _ (keptL_at hj).1) _ (keptL_at hj).1 rfl (keptL_at hj).2
end Go.Proofs.YthbmfbnnemgbpaaGreatDoor
