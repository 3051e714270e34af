/- Texts put together. -/
import Derived.Test.YtaaeeaknjlammaaGreatDoorZL
import Derived.Test.YtaaeeaknjlammaaGreatDoorKC3
import Derived.Test.YtaaeeaknjlammaaGreatDoorVP
import Derived.Lib.Join
import Derived.Test.YtaaeeaknjlammaaGreatDoorKD1
import Derived.Test.YtaaeeaknjlammaaGreatDoorGW
import Derived.Test.YtaaeeaknjlammaaGreatDoorZB
import Derived.Test.YtaaeeaknjlammaaGreatDoorZF
/- The text of a kernel, plainly. -/
namespace Go.Proofs.YtaaeeaknjlammaaGreatDoor
open Go

theorem decL_len_le (k : Nat) : ∀ n, n < 10 ^ (k + 1) → (decL n).length ≤ k + 1 := by
  induction k with
  | zero => intro n h; rw [decL_small (by simpa using h)]; simp
  | succ k ih =>
    intro n h
    by_cases hs : n < 10
    · rw [decL_small hs]; simp
    · rw [decL_big hs, List.length_append]
      have := ih (n / 10) (by rw [Nat.pow_succ] at h; omega)
      simp
      omega
def dc (x : Int) : List UInt8 := decL x.toNat
def lb (b : Int) (c : CatL) : List UInt8 := txt b (catsTo c.f c.g c.n)
def bl (ns : List Int) : List UInt8 := (ns.map fun x => 32 :: dc x).flatten
def nums (c : IntL) : List Int := (List.range c.n).map c.h
theorem bl_snoc (ns : List Int) (x : Int) : bl (ns ++ [x]) = bl ns ++ 32 :: dc x := by simp [bl]
theorem bl_app (a b : List Int) : bl (a ++ b) = bl a ++ bl b := by simp [bl]
def small (x : Int) : Prop := 0 ≤ x ∧ x ≤ 9999
theorem dc_len {x : Int} (h : small x) : (dc x).length ≤ 4 := decL_len_le 3 _ (by have := h.2; have := h.1; show x.toNat < 10000; omega)
theorem bl_len {ns : List Int} (h : ∀ x ∈ ns, small x) : (bl ns).length ≤ 5 * ns.length := by
  induction ns with
  | nil => simp [bl]
  | cons x ns ih =>
    have h1 := ih (fun y hy => h y (List.mem_cons_of_mem _ hy))
    have h2 := dc_len (h x (List.mem_cons_self ..))
    have e : bl (x :: ns) = (32 :: dc x) ++ bl ns := by simp [bl]
    rw [e, List.length_append, List.length_cons, List.length_cons]
    omega
/-- what a right label's numbers are -/
theorem lab_small {b : Int} {c : CatL} (h : labOk b c.n c.f c.g = true) : small b ∧ c.n ≤ 12 ∧ ∀ i, i < c.n → small (c.f i) ∧ small (c.g i) := by
  obtain ⟨h1, h2, h3⟩ := labOk_out h
  have h1' := inB_iff.1 h1
  refine ⟨⟨h1'.1, by have := h1'.2; omega⟩, h2, fun i hi => ?_⟩
  have := h3 i hi
  simp only [catOk, Bool.and_eq_true] at this
  have f1 := inB_iff.1 this.1.1.1
  have g1 := inB_iff.1 this.1.1.2
  exact ⟨⟨by omega, f1.2⟩, ⟨g1.1, by omega⟩⟩
theorem lb_len {b : Int} {c : CatL} (h : labOk b c.n c.f c.g = true) : (lb b c).length ≤ 200 := by
  obtain ⟨h1, h2, h3⟩ := lab_small h
  have key : ∀ k, k ≤ c.n → (txt b (catsTo c.f c.g k)).length ≤ 4 + k * 10 := fun k => by
    induction k with
    | zero => intro _; simp [txt, catsTo]; exact dc_len h1
    | succ k ih =>
      intro hk
      have := ih (by omega)
      have d1 := dc_len (h3 k (by omega)).1
      have d2 := dc_len (h3 k (by omega)).2
      unfold dc at d1 d2
      rw [catsTo_succ, txt_snoc, List.length_append]
      simp only [catText, List.length_cons, List.length_append]
      omega
  have := key c.n (Nat.le_refl _)
  unfold lb
  omega
theorem own_small {c : IntL} (h : ownOk c.n c.h = true) : c.n ≤ 10 ∧ ∀ x ∈ nums c, small x := by
  obtain ⟨h1, h2⟩ := ownOk_out h
  refine ⟨h1, fun x hx => ?_⟩
  unfold nums at hx
  obtain ⟨i, hi, rfl⟩ := List.mem_map.1 hx
  have := h2 i (List.mem_range.1 hi)
  simp only [ownAt, Bool.and_eq_true] at this
  have f1 := inB_iff.1 this.1
  exact ⟨by omega, f1.2⟩
theorem nums_len (c : IntL) : (nums c).length = c.n := by simp [nums]

def thrW : List UInt8 := [116, 104, 114, 101, 97, 100]
def objW : List UInt8 := [111, 98, 106, 101, 99, 116]
def datW : List UInt8 := [100, 97, 116, 97]
def itmW : List UInt8 := [105, 116, 101, 109]
/-- words, a blank between two, and a line's end -/
def lineL (ws : List (List UInt8)) : List UInt8 := Lib.join ws [32] ++ [10]
def thrX (t : ThrV) : List UInt8 := lineL ([thrW, dc t.id, lb t.b1 t.c1, lb t.b2 t.c2, dc t.made] ++ (nums t.own).map dc)
def objX (o : ObjV) (ks : List Int) : List UInt8 := lineL ([objW, dc o.id, dc o.kind, dc o.up, lb o.b1 o.c1, lb o.b2 o.c2] ++ (nums o.own).map dc ++ ks.map dc)
def datX (d : ByteArray) : List UInt8 := if d.toList.isEmpty = true then [] else lineL [datW, d.data.toList]
def itmX (f : Nat → ByteArray) (j : Nat) : List UInt8 := ((List.range j).map fun i => lineL [itmW, (f i).data.toList]).flatten
theorem itmX_succ (f : Nat → ByteArray) (j : Nat) : itmX f (j + 1) = itmX f j ++ lineL [itmW, (f j).data.toList] := by simp [itmX, List.range_succ]
def objT (o : ObjV) (ks : List Int) : List UInt8 := objX o ks ++ datX o.data ++ itmX o.items.f o.items.n
def thrsX (T : Nat → ThrV) (n : Nat) : List UInt8 := ((List.range n).map fun i => thrX (T i)).flatten
def objsX (O : Nat → ObjV) (n : Nat) : List UInt8 := ((List.range n).map fun i => objT (O i) []).flatten
theorem thrsX_succ (T : Nat → ThrV) (n : Nat) : thrsX T (n + 1) = thrsX T n ++ thrX (T n) := by simp [thrsX, List.range_succ]
theorem objsX_succ (O : Nat → ObjV) (n : Nat) : objsX O (n + 1) = objsX O n ++ objT (O n) [] := by simp [objsX, List.range_succ]
def kText (k : KerV) : ByteArray := if kerOk k = true then ⟨(thrsX k.T k.tn ++ objsX k.O k.on).toArray⟩ else ⟨#[]⟩
theorem line_thr (t : ThrV) : thrX t = thrW ++ [32] ++ dc t.id ++ [32] ++ lb t.b1 t.c1 ++ [32] ++ lb t.b2 t.c2 ++ [32] ++ dc t.made ++ bl (nums t.own) ++ [10] := by
  unfold thrX lineL
  rw [List.cons_append, Lib.join_cons]
  simp [Lib.joinTail, bl, Function.comp_def]
theorem line_obj (o : ObjV) (ks : List Int) : objX o ks = objW ++ [32] ++ dc o.id ++ [32] ++ dc o.kind ++ [32] ++ dc o.up ++ [32] ++ lb o.b1 o.c1 ++ [32] ++ lb o.b2 o.c2 ++ bl (nums o.own) ++ bl ks ++ [10] := by
  unfold objX lineL
  rw [List.cons_append, List.cons_append, Lib.join_cons]
  simp [Lib.joinTail, bl, Function.comp_def]
theorem line_two (a b : List UInt8) : lineL [a, b] = a ++ [32] ++ b ++ [10] := by
  unfold lineL
  rw [Lib.join_cons]
  simp [Lib.joinTail]

/-- a right thread's numbers are small -/
theorem thr_small {t : ThrV} (h : thrOkV t = true) : small t.id ∧ small t.made ∧ labOk t.b1 t.c1.n t.c1.f t.c1.g = true ∧ labOk t.b2 t.c2.n t.c2.f t.c2.g = true ∧ ownOk t.own.n t.own.h = true := by
  simp only [thrOkV, thrOk, Bool.and_eq_true] at h
  have h1 := inB_iff.1 h.1.1.1.1
  have h5 := inB_iff.1 h.2
  exact ⟨⟨by omega, by omega⟩, ⟨h5.1, by omega⟩, h.1.1.1.2, h.1.1.2, h.1.2⟩
theorem thrX_len {t : ThrV} (h : thrOkV t = true) : (thrX t).length ≤ 1000 := by
  obtain ⟨h1, h2, h3, h4, h5⟩ := thr_small h
  have d1 := dc_len h1
  have d2 := dc_len h2
  have d3 := lb_len h3
  have d4 := lb_len h4
  have d5 := bl_len (own_small h5).2
  have d6 := (own_small h5).1
  rw [nums_len] at d5
  rw [line_thr]
  simp only [List.length_append, thrW, List.length_cons, List.length_nil]
  omega
theorem obj_parts {o : ObjV} (h : objOk o = true) : labOk o.b1 o.c1.n o.c1.f o.c1.g = true ∧ labOk o.b2 o.c2.n o.c2.f o.c2.g = true ∧ ownOk o.own.n o.own.h = true ∧ o.data.size ≤ 40 ∧ o.items.n ≤ 8 ∧ (∀ i, i < o.items.n → (o.items.f i).size ≤ 40) ∧ small o.kind := by
  simp only [objOk, Bool.and_eq_true] at h
  obtain ⟨⟨⟨⟨⟨h1, h2⟩, h3⟩, h4⟩, h5⟩, h6⟩ := h
  obtain ⟨i1, i2⟩ := itemsB_out h5
  have p : ∀ {s : ByteArray}, plainB s 40 = true → s.size ≤ 40 := fun hs => by
    simp only [plainB, Bool.and_eq_true, decide_eq_true_eq] at hs
    omega
  refine ⟨h1, h2, h3, p h4, i1, fun i hi => p (i2 i hi), ?_⟩
  unfold kindB at h6
  unfold small
  split at h6
  · omega
  · split at h6
    · omega
    · split at h6
      · omega
      · split at h6
        · omega
        · cases h6
theorem objX_len {o : ObjV} {ks : List Int} (h : objOk o = true) (h1 : small o.id) (h2 : small o.up) (hk : ∀ x ∈ ks, small x) (hn : ks.length ≤ 271) : (objX o ks).length ≤ 3000 := by
  obtain ⟨p1, p2, p3, p4, p5, p6, p7⟩ := obj_parts h
  have d1 := dc_len h1
  have d2 := dc_len h2
  have d3 := dc_len p7
  have d4 := lb_len p1
  have d5 := lb_len p2
  have d6 := bl_len (own_small p3).2
  have d7 := (own_small p3).1
  have d8 := bl_len hk
  rw [nums_len] at d6
  rw [line_obj]
  simp only [List.length_append, objW, List.length_cons, List.length_nil]
  omega
theorem datX_len {d : ByteArray} (h : d.size ≤ 40) : (datX d).length ≤ 50 := by
  unfold datX
  split
  · simp
  · rw [line_two]
    have : d.data.toList.length = d.size := Array.length_toList
    simp only [List.length_append, datW, List.length_cons, List.length_nil]
    omega
theorem itmX_len {f : Nat → ByteArray} {n : Nat} (h : ∀ i, i < n → (f i).size ≤ 40) : (itmX f n).length ≤ 50 * n := by
  induction n with
  | zero => simp [itmX]
  | succ n ih =>
    have h1 := ih (fun i hi => h i (by omega))
    have h2 := h n (by omega)
    have : (f n).data.toList.length = (f n).size := Array.length_toList
    rw [itmX_succ, List.length_append, line_two]
    simp only [List.length_append, itmW, List.length_cons, List.length_nil]
    omega
theorem ker_id {k : KerV} (h : kerOk k = true) {i : Nat} (hi : i < k.on) : small (k.O i).id := by
  have hp := h
  simp only [kerOk, Bool.and_eq_true] at hp
  obtain ⟨⟨⟨⟨ht, ho⟩, hn⟩, _⟩, _⟩ := hp
  by_cases h0 : i = 0
  · subst h0
    rw [(objsOk_root ho).1]
    exact ⟨by omega, by omega⟩
  · have ha := all_out hn (i - 1) (by omega)
    have e : i - 1 + 1 = i := by omega
    simp only [e] at ha
    have hpos := objsOk_pos ho i hi
    cases hf : findI (fun j => (k.T j).id) k.tn ((k.O i).id / 1000) with
    | none => rw [numAt_none ht hf] at ha; cases ha
    | some t =>
      rw [numAt_some ht hf] at ha
      obtain ⟨t1, t2⟩ := findI_some hf
      have t3 := (thrsOk_out ht).2.2 t t1
      simp only [thrAt, Bool.and_eq_true] at t3
      obtain ⟨s1, s2, _⟩ := thr_small t3.1
      have a1 := inB_iff.1 ha
      have t2' : (k.T t).id = (k.O i).id / 1000 := t2
      have hid : (k.T t).id ≤ 9 := by
        have := t3.1
        simp only [thrOkV, thrOk, Bool.and_eq_true] at this
        exact (inB_iff.1 this.1.1.1.1).2
      exact ⟨by omega, by omega⟩
theorem ker_up {k : KerV} (h : kerOk k = true) {i : Nat} (hi : i < k.on) : small (k.O i).up := by
  by_cases h0 : i = 0
  · subst h0
    rw [(objsOk_root (kerOk_objs h)).2.2]
    exact ⟨by omega, by omega⟩
  · obtain ⟨u, hu⟩ := ups_box h hi h0
    obtain ⟨u1, u2⟩ := findI_some hu
    have u2' : (k.O u).id = (k.O i).up := u2
    rw [← u2']
    exact ker_id h u1
theorem ker_thr {k : KerV} (h : kerOk k = true) {i : Nat} (hi : i < k.tn) : thrOkV (k.T i) = true := by
  simp only [kerOk, Bool.and_eq_true] at h
  have := (thrsOk_out h.1.1.1.1).2.2 i hi
  simp only [thrAt, Bool.and_eq_true] at this
  exact this.1
theorem ker_obj {k : KerV} (h : kerOk k = true) {i : Nat} (hi : i < k.on) : objOk (k.O i) = true := by
  have := (objsOk_out (kerOk_objs h)).2.2.1 i hi
  simp only [objAt, Bool.and_eq_true] at this
  exact this.1
theorem ker_lens {k : KerV} (h : kerOk k = true) : 1 ≤ k.tn ∧ k.tn ≤ 9 ∧ k.on ≤ 271 := by
  have h2 := (objsOk_out (kerOk_objs h)).2.1
  simp only [kerOk, Bool.and_eq_true] at h
  have h1 := thrsOk_out h.1.1.1.1
  exact ⟨h1.1, h1.2.1, h2⟩
theorem thrsX_len {T : Nat → ThrV} {n : Nat} (h : ∀ i, i < n → thrOkV (T i) = true) : (thrsX T n).length ≤ 1000 * n := by
  induction n with
  | zero => simp [thrsX]
  | succ n ih =>
    have h1 := ih (fun i hi => h i (by omega))
    have h2 := thrX_len (h n (by omega))
    rw [thrsX_succ, List.length_append]
    omega
theorem objT_len {o : ObjV} {ks : List Int} (h : objOk o = true) (h1 : small o.id) (h2 : small o.up) (hk : ∀ x ∈ ks, small x) (hn : ks.length ≤ 271) : (objT o ks).length ≤ 4000 := by
  obtain ⟨_, _, _, p4, p5, p6, _⟩ := obj_parts h
  have d1 := objX_len h h1 h2 hk hn
  have d2 := datX_len p4
  have d3 := itmX_len p6
  unfold objT
  simp only [List.length_append]
  omega
theorem objsX_len {k : KerV} (h : kerOk k = true) {n : Nat} (hn : n ≤ k.on) : (objsX k.O n).length ≤ 4000 * n := by
  induction n with
  | zero => simp [objsX]
  | succ n ih =>
    have h1 := ih (by omega)
    have h2 := objT_len (ks := []) (ker_obj h (i := n) (by omega)) (ker_id h (by omega)) (ker_up h (by omega)) (fun x hx => by cases hx) (by simp)
    rw [objsX_succ, List.length_append]
    omega
end Go.Proofs.YtaaeeaknjlammaaGreatDoor

/- The model's text of a list of numbers. -/
namespace Go.Proofs.YtaaeeaknjlammaaGreatDoor
open Go Go.RowKit Go.Deep Go.Maps Go.BigFrame Go.Shelf

theorem mk_size (a : Array UInt8) : (ByteArray.mk a).size = a.size := rfl
theorem ret_str {a b : ByteArray} (h : a = b) : Ending.returned (.string a) = .returned (.string b) := by rw [h]
theorem dec_s (x : Int) (w : World) (h : small x) : Calls Tryz.prog 22 #[.int .i64 x] w fun e w' => e = .returned (.string ⟨(dc x).toArray⟩) ∧ Below w.heap.size w w' :=
  l1DecI_any x w h.1 (by have := h.2; omega)
theorem txt_s (b : Int) (c : CatL) (w : World) (hc : c.at w) (h : labOk b c.n c.f c.g = true) : Calls Tryz.prog 20 #[.agg #[.int .i64 b, c.val]] w fun e w' => e = .returned (.string ⟨(lb b c).toArray⟩) ∧ Below w.heap.size w w' := by
  obtain ⟨h1, h2, h3⟩ := lab_small h
  exact l1Text_any b c.a c.n c.k c.f c.g w h2 hc.2 ⟨h1.1, by have := h1.2; omega⟩ (fun i hi => ⟨(h3 i hi).1.1, by have := (h3 i hi).1.2; omega⟩) (fun i hi => ⟨(h3 i hi).2.1, by have := (h3 i hi).2.2; omega⟩)

set_option maxRecDepth 100000 in
set_option maxHeartbeats 4000000 in
theorem l5List_any (c : IntL) (w : World) (hc : c.at w) (hs : ∀ i, i < c.n → small (c.h i)) (hn : c.n ≤ 1000) :
    Calls Tryz.prog 23 #[c.val] w fun e w' => e = .returned (.string ⟨(bl (nums c)).toArray⟩) ∧ Below w.heap.size w w' := by
  obtain ⟨a, n, cap, h⟩ := c
  simp only at hs hn
  have HC := hid hc.2
  simp only at HC
  unfold IntL.val nums
  simp only
  have HS := hid hs
  clear hc hs
  go_enter Tryz.func23, Tryz.ntmps23
  go_wp2
  go_loopw [3, 4] (fun s i wr => ∃ q : Nat, q ≤ n ∧ i = .int .i64 q ∧ s = .string ⟨(bl ((List.range q).map h)).toArray⟩ ∧ Below w.heap.size w wr) (fun _ i _ => n - (intOf i).toNat)
  case atStart => exact ⟨0, Nat.zero_le _, rfl, rfl, Below.refl _ _⟩
  case round =>
    obtain ⟨q, hq, rfl, rfl, hB⟩ := hrel
    by_cases hlt : q < n
    · obtain ⟨b, off, rfl, hbl, hcc⟩ := HC.out (by omega)
      have c1 := (hB.cell (p := ⟨b, off + q, none⟩) hbl).trans (hcc q hlt)
      have i1 : (q : Int) < (n : Int) := by omega
      have D := hid (dec_s (h q) wr (HS.out q hlt))
      have EX : Hid ((⟨(bl ((List.range (q + 1)).map h)).toArray⟩ : ByteArray) = ⟨(bl ((List.range q).map h)).toArray⟩ ++ ByteArray.mk #[32] ++ ⟨(dc (h q)).toArray⟩) := hid (by
        rw [List.range_succ, List.map_append, List.map_cons, List.map_nil, bl_snoc]
        have e1 : ByteArray.mk #[32] = ⟨[32].toArray⟩ := rfl
        rw [e1, bytes_app, bytes_app]
        simp)
      have l1 := bl_len (ns := (List.range q).map h) (fun x hx => by obtain ⟨i, hi, rfl⟩ := List.mem_map.1 hx; exact HS.out i (by have := List.mem_range.1 hi; omega))
      have l2 := dc_len (HS.out q hlt)
      have s1 : (⟨(bl ((List.range q).map h)).toArray⟩ : ByteArray).size ≤ 100000 := by rw [mk_size, List.size_toArray]; simp at l1; omega
      have s2 : (⟨(dc (h q)).toArray⟩ : ByteArray).size ≤ 4 := by rw [mk_size, List.size_toArray]; exact l2
      clear hcc l1 l2
      generalize (⟨(bl ((List.range q).map h)).toArray⟩ : ByteArray) = S at *
      generalize (⟨(dc (h q)).toArray⟩ : ByteArray) = D1 at *
      have lt0 : (ByteArray.mk #[32]).size = 1 := rfl
      have r1 : ¬ 9223372036854775807 < S.size + (ByteArray.mk #[32]).size := by omega
      have r2 : ¬ 9223372036854775807 < (S ++ ByteArray.mk #[32]).size + D1.size := by rw [ByteArray.size_append]; omega
      clear lt0
      go_wp2_with fail
      refine D.out.mono ?_
      rintro e w2 ⟨rfl, b2⟩
      have B2 := then_ hB b2
      clear b2 D c1
      go_wp2
      exact ⟨⟨q + 1, by omega, by go_num, by rw [EX.out], B2⟩, by simp [intOf]; omega⟩
    · have i1 : ¬ (q : Int) < (n : Int) := by omega
      obtain rfl : q = n := by omega
      go_wp2
      go_ret
      exact ⟨rfl, hB⟩
end Go.Proofs.YtaaeeaknjlammaaGreatDoor

/- A line of a thread, as the model puts it together. -/
namespace Go.Proofs.YtaaeeaknjlammaaGreatDoor
open Go Go.RowKit Go.Deep Go.Maps Go.BigFrame Go.Shelf

set_option maxRecDepth 1000000 in
set_option maxHeartbeats 16000000 in
theorem thrReg (t : ThrV) (P : Nat) (S D1 D2 X1 X2 BL : ByteArray) (u0 u1 u2 u4 u6 u7 u8 u9 u10 u11 u12 u13 u14 u15 u16 u17 u18 u19 u20 u21 u22 u23 u24 u25 u26 u27 u28 u29 u30 u31 u32 u33 u34 u35 u36 u37 u38 u39 u40 u41 u42 u43 u44 u45 u46 u47 u48 u49 u50 u51 u52 u53 u54 u55 u56 u57 u58 u59 u60 u61 u62 u63 u64 u65 u66 u67 u68 u69 u70 u71 u72 u73 u74 u75 u76 u77 u78 u79 u80 u81 u82 u83 u84 u85 u86 u87 u88 u89 u90 u91 u92 u93 u94 u95 u96 u97 u98 u99 u100 u101 u102 u103 u104 u105 u106 u107 u108 u109 u110 u111 u112 u113 u114 u115 u116 u117 u118 : Value) (V : World) (Q : Exit → Act → World → Prop) (hp : ∀ c a d v w, Q (.panic c) (Act.put a (some d) v) w → Q (.panic c) a w)
    (ED : ∀ args w, (callFunc 22 args).run Tryz.prog w = .ok (.enter 22 args) w) (EX : ∀ args w, (callFunc 20 args).run Tryz.prog w = .ok (.enter 20 args) w) (EL : ∀ args w, (callFunc 23 args).run Tryz.prog w = .ok (.enter 23 args) w) (HA : ∀ W, Below V.heap.size V W → Blk W P (.cells #[.int .i64 t.id, .int .i64 t.b1, .slice t.c1.a t.c1.n t.c1.k, .int .i64 t.b2, .slice t.c2.a t.c2.n t.c2.k, .slice t.own.a t.own.n t.own.k, .int .i64 t.made] 54)) (PD1 : ∀ W, Below V.heap.size V W → Calls Tryz.prog 22 #[.int .i64 t.id] W fun e w' => ∃ v, e = .returned v ∧ v = .string D1 ∧ Below W.heap.size W w') (PX1 : ∀ W, Below V.heap.size V W → Calls Tryz.prog 20 #[.agg #[.int .i64 t.b1, .slice t.c1.a t.c1.n t.c1.k]] W fun e w' => ∃ v, e = .returned v ∧ v = .string X1 ∧ Below W.heap.size W w') (PX2 : ∀ W, Below V.heap.size V W → Calls Tryz.prog 20 #[.agg #[.int .i64 t.b2, .slice t.c2.a t.c2.n t.c2.k]] W fun e w' => ∃ v, e = .returned v ∧ v = .string X2 ∧ Below W.heap.size W w') (PD2 : ∀ W, Below V.heap.size V W → Calls Tryz.prog 22 #[.int .i64 t.made] W fun e w' => ∃ v, e = .returned v ∧ v = .string D2 ∧ Below W.heap.size W w') (PB : ∀ W, Below V.heap.size V W → Calls Tryz.prog 23 #[.slice t.own.a t.own.n t.own.k] W fun e w' => ∃ v, e = .returned v ∧ v = .string BL ∧ Below W.heap.size W w') (z0 : S.size ≤ 3000000) (z1 : D1.size ≤ 4) (z2 : D2.size ≤ 4) (z3 : X1.size ≤ 200) (z4 : X2.size ≤ 200) (z5 : BL.size ≤ 2000)
    (hQ : ∀ W, Below V.heap.size V W → Q .normal ⟨#[u0, u1, u2, .string (S ++ (ByteArray.mk #[116, 104, 114, 101, 97, 100, 32]) ++ D1 ++ (ByteArray.mk #[32]) ++ X1 ++ (ByteArray.mk #[32]) ++ X2 ++ (ByteArray.mk #[32]) ++ D2 ++ BL ++ (ByteArray.mk #[10])), u4, .pointer (some ⟨P, 0, none⟩), u6, u7, u8, u9, u10, u11, u12, u13, u14, u15, u16, u17, u18, u19, u20, u21, u22, u23, .string S, .string (S ++ (ByteArray.mk #[116, 104, 114, 101, 97, 100, 32])), .pointer (some ⟨P, 0, none⟩), .int .i64 t.id, .string D1, .string (S ++ (ByteArray.mk #[116, 104, 114, 101, 97, 100, 32]) ++ D1), .string (S ++ (ByteArray.mk #[116, 104, 114, 101, 97, 100, 32]) ++ D1 ++ (ByteArray.mk #[32])), .pointer (some ⟨P, 1, none⟩), .agg #[.int .i64 t.b1, .slice t.c1.a t.c1.n t.c1.k], .string X1, .string (S ++ (ByteArray.mk #[116, 104, 114, 101, 97, 100, 32]) ++ D1 ++ (ByteArray.mk #[32]) ++ X1), .string (S ++ (ByteArray.mk #[116, 104, 114, 101, 97, 100, 32]) ++ D1 ++ (ByteArray.mk #[32]) ++ X1 ++ (ByteArray.mk #[32])), .pointer (some ⟨P, 3, none⟩), .agg #[.int .i64 t.b2, .slice t.c2.a t.c2.n t.c2.k], .string X2, .string (S ++ (ByteArray.mk #[116, 104, 114, 101, 97, 100, 32]) ++ D1 ++ (ByteArray.mk #[32]) ++ X1 ++ (ByteArray.mk #[32]) ++ X2), .string (S ++ (ByteArray.mk #[116, 104, 114, 101, 97, 100, 32]) ++ D1 ++ (ByteArray.mk #[32]) ++ X1 ++ (ByteArray.mk #[32]) ++ X2 ++ (ByteArray.mk #[32])), .pointer (some ⟨P, 6, none⟩), .int .i64 t.made, .string D2, .string (S ++ (ByteArray.mk #[116, 104, 114, 101, 97, 100, 32]) ++ D1 ++ (ByteArray.mk #[32]) ++ X1 ++ (ByteArray.mk #[32]) ++ X2 ++ (ByteArray.mk #[32]) ++ D2), .pointer (some ⟨P, 5, none⟩), .slice t.own.a t.own.n t.own.k, .string BL, .string (S ++ (ByteArray.mk #[116, 104, 114, 101, 97, 100, 32]) ++ D1 ++ (ByteArray.mk #[32]) ++ X1 ++ (ByteArray.mk #[32]) ++ X2 ++ (ByteArray.mk #[32]) ++ D2 ++ BL), .string (S ++ (ByteArray.mk #[116, 104, 114, 101, 97, 100, 32]) ++ D1 ++ (ByteArray.mk #[32]) ++ X1 ++ (ByteArray.mk #[32]) ++ X2 ++ (ByteArray.mk #[32]) ++ D2 ++ BL ++ (ByteArray.mk #[10])), u50, u51, u52, u53, u54, u55, u56, u57, u58, u59, u60, u61, u62, u63, u64, u65, u66, u67, u68, u69, u70, u71, u72, u73, u74, u75, u76, u77, u78, u79, u80, u81, u82, u83, u84, u85, u86, u87, u88, u89, u90, u91, u92, u93, u94, u95, u96, u97, u98, u99, u100, u101, u102, u103, u104, u105, u106, u107, u108, u109, u110, u111, u112, u113, u114, u115, u116, u117, u118], []⟩ W) :
    Code.wp Tryz.prog (Code.region 8 #[{ dst := some 24, op := Op.move (Operand.tmp 3), type := 9, pos := "l10_texts.go:45", after := #[], guard := none }, { dst := some 25, op := Op.binOp BinOp.add 9 (Operand.tmp 24) (Operand.const (Value.string { data := #[116, 104, 114, 101, 97, 100, 32] })) 9, type := 9, pos := "l10_texts.go:45", after := #[{ on := 0, ground := Ground.data }], guard := none }, { dst := some 26, op := Op.fieldAddr 54 (Operand.tmp 5) 0, type := 0, pos := "l10_texts.go:45", after := #[], guard := none }, { dst := some 27, op := Op.load 2 (Operand.tmp 26), type := 2, pos := "l10_texts.go:45", after := #[{ on := 2, ground := Ground.data }], guard := none }, { dst := some 28, op := Op.call { callee := Callee.value (Operand.func 22), args := #[Operand.tmp 27], argTypes := #[2] }, type := 9, pos := "l10_texts.go:45", after := #[{ on := 3, ground := Ground.data }], guard := none }, { dst := some 29, op := Op.binOp BinOp.add 9 (Operand.tmp 25) (Operand.tmp 28) 9, type := 9, pos := "l10_texts.go:45", after := #[{ on := 1, ground := Ground.data }, { on := 4, ground := Ground.data }], guard := none }, { dst := some 30, op := Op.binOp BinOp.add 9 (Operand.tmp 29) (Operand.const (Value.string { data := #[32] })) 9, type := 9, pos := "l10_texts.go:45", after := #[{ on := 5, ground := Ground.data }], guard := none }, { dst := some 31, op := Op.fieldAddr 54 (Operand.tmp 5) 1, type := 0, pos := "l10_texts.go:45", after := #[], guard := none }, { dst := some 32, op := Op.load 39 (Operand.tmp 31), type := 39, pos := "l10_texts.go:45", after := #[{ on := 7, ground := Ground.data }], guard := none }, { dst := some 33, op := Op.call { callee := Callee.value (Operand.func 20), args := #[Operand.tmp 32], argTypes := #[39] }, type := 9, pos := "l10_texts.go:45", after := #[{ on := 8, ground := Ground.data }, { on := 4, ground := Ground.chain }], guard := none }, { dst := some 34, op := Op.binOp BinOp.add 9 (Operand.tmp 30) (Operand.tmp 33) 9, type := 9, pos := "l10_texts.go:45", after := #[{ on := 6, ground := Ground.data }, { on := 9, ground := Ground.data }], guard := none }, { dst := some 35, op := Op.binOp BinOp.add 9 (Operand.tmp 34) (Operand.const (Value.string { data := #[32] })) 9, type := 9, pos := "l10_texts.go:45", after := #[{ on := 10, ground := Ground.data }], guard := none }, { dst := some 36, op := Op.fieldAddr 54 (Operand.tmp 5) 2, type := 0, pos := "l10_texts.go:45", after := #[], guard := none }, { dst := some 37, op := Op.load 39 (Operand.tmp 36), type := 39, pos := "l10_texts.go:45", after := #[{ on := 12, ground := Ground.data }], guard := none }, { dst := some 38, op := Op.call { callee := Callee.value (Operand.func 20), args := #[Operand.tmp 37], argTypes := #[39] }, type := 9, pos := "l10_texts.go:45", after := #[{ on := 13, ground := Ground.data }, { on := 9, ground := Ground.chain }], guard := none }, { dst := some 39, op := Op.binOp BinOp.add 9 (Operand.tmp 35) (Operand.tmp 38) 9, type := 9, pos := "l10_texts.go:45", after := #[{ on := 11, ground := Ground.data }, { on := 14, ground := Ground.data }], guard := none }, { dst := some 40, op := Op.binOp BinOp.add 9 (Operand.tmp 39) (Operand.const (Value.string { data := #[32] })) 9, type := 9, pos := "l10_texts.go:45", after := #[{ on := 15, ground := Ground.data }], guard := none }, { dst := some 41, op := Op.fieldAddr 54 (Operand.tmp 5) 4, type := 0, pos := "l10_texts.go:45", after := #[], guard := none }, { dst := some 42, op := Op.load 2 (Operand.tmp 41), type := 2, pos := "l10_texts.go:45", after := #[{ on := 17, ground := Ground.data }], guard := none }, { dst := some 43, op := Op.call { callee := Callee.value (Operand.func 22), args := #[Operand.tmp 42], argTypes := #[2] }, type := 9, pos := "l10_texts.go:45", after := #[{ on := 18, ground := Ground.data }, { on := 14, ground := Ground.chain }], guard := none }, { dst := some 44, op := Op.binOp BinOp.add 9 (Operand.tmp 40) (Operand.tmp 43) 9, type := 9, pos := "l10_texts.go:45", after := #[{ on := 16, ground := Ground.data }, { on := 19, ground := Ground.data }], guard := none }, { dst := some 45, op := Op.fieldAddr 54 (Operand.tmp 5) 3, type := 0, pos := "l10_texts.go:45", after := #[], guard := none }, { dst := some 46, op := Op.load 52 (Operand.tmp 45), type := 52, pos := "l10_texts.go:45", after := #[{ on := 21, ground := Ground.data }], guard := none }, { dst := some 47, op := Op.call { callee := Callee.value (Operand.func 23), args := #[Operand.tmp 46], argTypes := #[52] }, type := 9, pos := "l10_texts.go:45", after := #[{ on := 22, ground := Ground.data }, { on := 19, ground := Ground.chain }], guard := none }, { dst := some 48, op := Op.binOp BinOp.add 9 (Operand.tmp 44) (Operand.tmp 47) 9, type := 9, pos := "l10_texts.go:45", after := #[{ on := 20, ground := Ground.data }, { on := 23, ground := Ground.data }], guard := none }, { dst := some 49, op := Op.binOp BinOp.add 9 (Operand.tmp 48) (Operand.const (Value.string { data := #[10] })) 9, type := 9, pos := "l10_texts.go:45", after := #[{ on := 24, ground := Ground.data }], guard := none }, { dst := some 3, op := Op.assign (Operand.tmp 49), type := 9, pos := "l10_texts.go:45", after := #[{ on := 25, ground := Ground.data }, { on := 23, ground := Ground.chain }, { on := 0, ground := Ground.phase }, { on := 1, ground := Ground.phase }, { on := 2, ground := Ground.phase }, { on := 3, ground := Ground.phase }, { on := 4, ground := Ground.phase }, { on := 5, ground := Ground.phase }, { on := 6, ground := Ground.phase }, { on := 7, ground := Ground.phase }, { on := 8, ground := Ground.phase }, { on := 9, ground := Ground.phase }, { on := 10, ground := Ground.phase }, { on := 11, ground := Ground.phase }, { on := 12, ground := Ground.phase }, { on := 13, ground := Ground.phase }, { on := 14, ground := Ground.phase }, { on := 15, ground := Ground.phase }, { on := 16, ground := Ground.phase }, { on := 17, ground := Ground.phase }, { on := 18, ground := Ground.phase }, { on := 19, ground := Ground.phase }, { on := 20, ground := Ground.phase }, { on := 21, ground := Ground.phase }, { on := 22, ground := Ground.phase }, { on := 23, ground := Ground.phase }, { on := 24, ground := Ground.phase }, { on := 25, ground := Ground.phase }], guard := none }] true) Q ⟨#[u0, u1, u2, .string S, u4, .pointer (some ⟨P, 0, none⟩), u6, u7, u8, u9, u10, u11, u12, u13, u14, u15, u16, u17, u18, u19, u20, u21, u22, u23, u24, u25, u26, u27, u28, u29, u30, u31, u32, u33, u34, u35, u36, u37, u38, u39, u40, u41, u42, u43, u44, u45, u46, u47, u48, u49, u50, u51, u52, u53, u54, u55, u56, u57, u58, u59, u60, u61, u62, u63, u64, u65, u66, u67, u68, u69, u70, u71, u72, u73, u74, u75, u76, u77, u78, u79, u80, u81, u82, u83, u84, u85, u86, u87, u88, u89, u90, u91, u92, u93, u94, u95, u96, u97, u98, u99, u100, u101, u102, u103, u104, u105, u106, u107, u108, u109, u110, u111, u112, u113, u114, u115, u116, u117, u118], []⟩ V := by
  have V0 : Below V.heap.size V V.drew := (Below.refl _ V).drew
  refine wp_region_G 27 (fun W => Below V.heap.size V W) (by kernel_rfl) ?_
  refine wpAnyG_takeD (i := 0) (d := 24) (.string S) rfl rfl (by kernel_rfl) (by kernel_rfl) (by kernel_rfl) (by kernel_rfl) (by kernel_rfl) (by kernel_rfl) (fun c a w h => hp c a _ _ w h) (Or.inl ⟨by rfl, fun W h => by go_simp⟩) V0 ?_
  simp only [Act.put, List.setIfInBounds_toArray, List.set_cons_zero, List.set_cons_succ]
  refine wpAnyG_takeD (i := 1) (d := 25) (.string (S ++ (ByteArray.mk #[116, 104, 114, 101, 97, 100, 32]))) rfl rfl (by kernel_rfl) (by kernel_rfl) (by kernel_rfl) (by kernel_rfl) (by kernel_rfl) (by kernel_rfl) (fun c a w h => hp c a _ _ w h) (Or.inl ⟨by rfl, fun W h => by go_simp; omega⟩) V0 ?_
  simp only [Act.put, List.setIfInBounds_toArray, List.set_cons_zero, List.set_cons_succ]
  refine wpAnyG_takeD (i := 2) (d := 26) (.pointer (some ⟨P, 0, none⟩)) rfl rfl (by kernel_rfl) (by kernel_rfl) (by kernel_rfl) (by kernel_rfl) (by kernel_rfl) (by kernel_rfl) (fun c a w h => hp c a _ _ w h) (Or.inl ⟨by rfl, fun W h => by go_simp⟩) V0 ?_
  simp only [Act.put, List.setIfInBounds_toArray, List.set_cons_zero, List.set_cons_succ]
  refine wpAnyG_takeD (i := 3) (d := 27) (.int .i64 t.id) rfl rfl (by kernel_rfl) (by kernel_rfl) (by kernel_rfl) (by kernel_rfl) (by kernel_rfl) (by kernel_rfl) (fun c a w h => hp c a _ _ w h) (Or.inl ⟨by rfl, fun W h => by obtain ⟨q0, q1, q2, q3, q4, q5, q6⟩ := (HA W h).seven; go_simp⟩) V0 ?_
  simp only [Act.put, List.setIfInBounds_toArray, List.set_cons_zero, List.set_cons_succ]
  refine wpAnyG_takeD (i := 7) (d := 31) (.pointer (some ⟨P, 1, none⟩)) rfl rfl (by kernel_rfl) (by kernel_rfl) (by kernel_rfl) (by kernel_rfl) (by kernel_rfl) (by kernel_rfl) (fun c a w h => hp c a _ _ w h) (Or.inl ⟨by rfl, fun W h => by go_simp⟩) V0 ?_
  simp only [Act.put, List.setIfInBounds_toArray, List.set_cons_zero, List.set_cons_succ]
  refine wpAnyG_takeD (i := 8) (d := 32) (.agg #[.int .i64 t.b1, .slice t.c1.a t.c1.n t.c1.k]) rfl rfl (by kernel_rfl) (by kernel_rfl) (by kernel_rfl) (by kernel_rfl) (by kernel_rfl) (by kernel_rfl) (fun c a w h => hp c a _ _ w h) (Or.inl ⟨by rfl, fun W h => by obtain ⟨q0, q1, q2, q3, q4, q5, q6⟩ := (HA W h).seven; go_simp⟩) V0 ?_
  simp only [Act.put, List.setIfInBounds_toArray, List.set_cons_zero, List.set_cons_succ]
  refine wpAnyG_takeD (i := 12) (d := 36) (.pointer (some ⟨P, 3, none⟩)) rfl rfl (by kernel_rfl) (by kernel_rfl) (by kernel_rfl) (by kernel_rfl) (by kernel_rfl) (by kernel_rfl) (fun c a w h => hp c a _ _ w h) (Or.inl ⟨by rfl, fun W h => by go_simp⟩) V0 ?_
  simp only [Act.put, List.setIfInBounds_toArray, List.set_cons_zero, List.set_cons_succ]
  refine wpAnyG_takeD (i := 13) (d := 37) (.agg #[.int .i64 t.b2, .slice t.c2.a t.c2.n t.c2.k]) rfl rfl (by kernel_rfl) (by kernel_rfl) (by kernel_rfl) (by kernel_rfl) (by kernel_rfl) (by kernel_rfl) (fun c a w h => hp c a _ _ w h) (Or.inl ⟨by rfl, fun W h => by obtain ⟨q0, q1, q2, q3, q4, q5, q6⟩ := (HA W h).seven; go_simp⟩) V0 ?_
  simp only [Act.put, List.setIfInBounds_toArray, List.set_cons_zero, List.set_cons_succ]
  refine wpAnyG_takeD (i := 17) (d := 41) (.pointer (some ⟨P, 6, none⟩)) rfl rfl (by kernel_rfl) (by kernel_rfl) (by kernel_rfl) (by kernel_rfl) (by kernel_rfl) (by kernel_rfl) (fun c a w h => hp c a _ _ w h) (Or.inl ⟨by rfl, fun W h => by go_simp⟩) V0 ?_
  simp only [Act.put, List.setIfInBounds_toArray, List.set_cons_zero, List.set_cons_succ]
  refine wpAnyG_takeD (i := 18) (d := 42) (.int .i64 t.made) rfl rfl (by kernel_rfl) (by kernel_rfl) (by kernel_rfl) (by kernel_rfl) (by kernel_rfl) (by kernel_rfl) (fun c a w h => hp c a _ _ w h) (Or.inl ⟨by rfl, fun W h => by obtain ⟨q0, q1, q2, q3, q4, q5, q6⟩ := (HA W h).seven; go_simp⟩) V0 ?_
  simp only [Act.put, List.setIfInBounds_toArray, List.set_cons_zero, List.set_cons_succ]
  refine wpAnyG_takeD (i := 21) (d := 45) (.pointer (some ⟨P, 5, none⟩)) rfl rfl (by kernel_rfl) (by kernel_rfl) (by kernel_rfl) (by kernel_rfl) (by kernel_rfl) (by kernel_rfl) (fun c a w h => hp c a _ _ w h) (Or.inl ⟨by rfl, fun W h => by go_simp⟩) V0 ?_
  simp only [Act.put, List.setIfInBounds_toArray, List.set_cons_zero, List.set_cons_succ]
  refine wpAnyG_takeD (i := 22) (d := 46) (.slice t.own.a t.own.n t.own.k) rfl rfl (by kernel_rfl) (by kernel_rfl) (by kernel_rfl) (by kernel_rfl) (by kernel_rfl) (by kernel_rfl) (fun c a w h => hp c a _ _ w h) (Or.inl ⟨by rfl, fun W h => by obtain ⟨q0, q1, q2, q3, q4, q5, q6⟩ := (HA W h).seven; go_simp⟩) V0 ?_
  simp only [Act.put, List.setIfInBounds_toArray, List.set_cons_zero, List.set_cons_succ]
  refine wpAnyG_one (i := 4) (by kernel_rfl) rfl ?_
  intro K hK
  refine step_call1g (by rfl) 22 _ _ (by rfl) ED _ (by rfl) (some 28) (by rfl) _ (PD1 _ V0) ?_
  rintro v w1x ⟨rfl, h1⟩
  have V1 := then_ V0 h1
  refine hK.out _ _ (fun _ => V1) ?_
  clear hK K
  simp only [Act.put, List.setIfInBounds_toArray, List.set_cons_zero, List.set_cons_succ]
  refine wpAnyG_takeD (i := 5) (d := 29) (.string (S ++ (ByteArray.mk #[116, 104, 114, 101, 97, 100, 32]) ++ D1)) rfl rfl (by kernel_rfl) (by kernel_rfl) (by kernel_rfl) (by kernel_rfl) (by kernel_rfl) (by kernel_rfl) (fun c a w h => hp c a _ _ w h) (Or.inl ⟨by rfl, fun W h => by go_simp; omega⟩) V1 ?_
  simp only [Act.put, List.setIfInBounds_toArray, List.set_cons_zero, List.set_cons_succ]
  refine wpAnyG_takeD (i := 6) (d := 30) (.string (S ++ (ByteArray.mk #[116, 104, 114, 101, 97, 100, 32]) ++ D1 ++ (ByteArray.mk #[32]))) rfl rfl (by kernel_rfl) (by kernel_rfl) (by kernel_rfl) (by kernel_rfl) (by kernel_rfl) (by kernel_rfl) (fun c a w h => hp c a _ _ w h) (Or.inl ⟨by rfl, fun W h => by go_simp; omega⟩) V1 ?_
  simp only [Act.put, List.setIfInBounds_toArray, List.set_cons_zero, List.set_cons_succ]
  refine wpAnyG_one (i := 9) (by kernel_rfl) rfl ?_
  intro K hK
  refine step_call1g (by rfl) 20 _ _ (by rfl) EX _ (by rfl) (some 33) (by rfl) _ (PX1 _ V1) ?_
  rintro v w2x ⟨rfl, h2⟩
  have V2 := then_ V1 h2
  refine hK.out _ _ (fun _ => V2) ?_
  clear hK K
  simp only [Act.put, List.setIfInBounds_toArray, List.set_cons_zero, List.set_cons_succ]
  refine wpAnyG_takeD (i := 10) (d := 34) (.string (S ++ (ByteArray.mk #[116, 104, 114, 101, 97, 100, 32]) ++ D1 ++ (ByteArray.mk #[32]) ++ X1)) rfl rfl (by kernel_rfl) (by kernel_rfl) (by kernel_rfl) (by kernel_rfl) (by kernel_rfl) (by kernel_rfl) (fun c a w h => hp c a _ _ w h) (Or.inl ⟨by rfl, fun W h => by go_simp; omega⟩) V2 ?_
  simp only [Act.put, List.setIfInBounds_toArray, List.set_cons_zero, List.set_cons_succ]
  refine wpAnyG_takeD (i := 11) (d := 35) (.string (S ++ (ByteArray.mk #[116, 104, 114, 101, 97, 100, 32]) ++ D1 ++ (ByteArray.mk #[32]) ++ X1 ++ (ByteArray.mk #[32]))) rfl rfl (by kernel_rfl) (by kernel_rfl) (by kernel_rfl) (by kernel_rfl) (by kernel_rfl) (by kernel_rfl) (fun c a w h => hp c a _ _ w h) (Or.inl ⟨by rfl, fun W h => by go_simp; omega⟩) V2 ?_
  simp only [Act.put, List.setIfInBounds_toArray, List.set_cons_zero, List.set_cons_succ]
  refine wpAnyG_one (i := 14) (by kernel_rfl) rfl ?_
  intro K hK
  refine step_call1g (by rfl) 20 _ _ (by rfl) EX _ (by rfl) (some 38) (by rfl) _ (PX2 _ V2) ?_
  rintro v w3x ⟨rfl, h3⟩
  have V3 := then_ V2 h3
  refine hK.out _ _ (fun _ => V3) ?_
  clear hK K
  simp only [Act.put, List.setIfInBounds_toArray, List.set_cons_zero, List.set_cons_succ]
  refine wpAnyG_takeD (i := 15) (d := 39) (.string (S ++ (ByteArray.mk #[116, 104, 114, 101, 97, 100, 32]) ++ D1 ++ (ByteArray.mk #[32]) ++ X1 ++ (ByteArray.mk #[32]) ++ X2)) rfl rfl (by kernel_rfl) (by kernel_rfl) (by kernel_rfl) (by kernel_rfl) (by kernel_rfl) (by kernel_rfl) (fun c a w h => hp c a _ _ w h) (Or.inl ⟨by rfl, fun W h => by go_simp; omega⟩) V3 ?_
  simp only [Act.put, List.setIfInBounds_toArray, List.set_cons_zero, List.set_cons_succ]
  refine wpAnyG_takeD (i := 16) (d := 40) (.string (S ++ (ByteArray.mk #[116, 104, 114, 101, 97, 100, 32]) ++ D1 ++ (ByteArray.mk #[32]) ++ X1 ++ (ByteArray.mk #[32]) ++ X2 ++ (ByteArray.mk #[32]))) rfl rfl (by kernel_rfl) (by kernel_rfl) (by kernel_rfl) (by kernel_rfl) (by kernel_rfl) (by kernel_rfl) (fun c a w h => hp c a _ _ w h) (Or.inl ⟨by rfl, fun W h => by go_simp; omega⟩) V3 ?_
  simp only [Act.put, List.setIfInBounds_toArray, List.set_cons_zero, List.set_cons_succ]
  refine wpAnyG_one (i := 19) (by kernel_rfl) rfl ?_
  intro K hK
  refine step_call1g (by rfl) 22 _ _ (by rfl) ED _ (by rfl) (some 43) (by rfl) _ (PD2 _ V3) ?_
  rintro v w4x ⟨rfl, h4⟩
  have V4 := then_ V3 h4
  refine hK.out _ _ (fun _ => V4) ?_
  clear hK K
  simp only [Act.put, List.setIfInBounds_toArray, List.set_cons_zero, List.set_cons_succ]
  refine wpAnyG_takeD (i := 20) (d := 44) (.string (S ++ (ByteArray.mk #[116, 104, 114, 101, 97, 100, 32]) ++ D1 ++ (ByteArray.mk #[32]) ++ X1 ++ (ByteArray.mk #[32]) ++ X2 ++ (ByteArray.mk #[32]) ++ D2)) rfl rfl (by kernel_rfl) (by kernel_rfl) (by kernel_rfl) (by kernel_rfl) (by kernel_rfl) (by kernel_rfl) (fun c a w h => hp c a _ _ w h) (Or.inl ⟨by rfl, fun W h => by go_simp; omega⟩) V4 ?_
  simp only [Act.put, List.setIfInBounds_toArray, List.set_cons_zero, List.set_cons_succ]
  refine wpAnyG_one (i := 23) (by kernel_rfl) rfl ?_
  intro K hK
  refine step_call1g (by rfl) 23 _ _ (by rfl) EL _ (by rfl) (some 47) (by rfl) _ (PB _ V4) ?_
  rintro v w5x ⟨rfl, h5⟩
  have V5 := then_ V4 h5
  refine hK.out _ _ (fun _ => V5) ?_
  clear hK K
  simp only [Act.put, List.setIfInBounds_toArray, List.set_cons_zero, List.set_cons_succ]
  refine wpAnyG_takeD (i := 24) (d := 48) (.string (S ++ (ByteArray.mk #[116, 104, 114, 101, 97, 100, 32]) ++ D1 ++ (ByteArray.mk #[32]) ++ X1 ++ (ByteArray.mk #[32]) ++ X2 ++ (ByteArray.mk #[32]) ++ D2 ++ BL)) rfl rfl (by kernel_rfl) (by kernel_rfl) (by kernel_rfl) (by kernel_rfl) (by kernel_rfl) (by kernel_rfl) (fun c a w h => hp c a _ _ w h) (Or.inl ⟨by rfl, fun W h => by go_simp; omega⟩) V5 ?_
  simp only [Act.put, List.setIfInBounds_toArray, List.set_cons_zero, List.set_cons_succ]
  refine wpAnyG_takeD (i := 25) (d := 49) (.string (S ++ (ByteArray.mk #[116, 104, 114, 101, 97, 100, 32]) ++ D1 ++ (ByteArray.mk #[32]) ++ X1 ++ (ByteArray.mk #[32]) ++ X2 ++ (ByteArray.mk #[32]) ++ D2 ++ BL ++ (ByteArray.mk #[10]))) rfl rfl (by kernel_rfl) (by kernel_rfl) (by kernel_rfl) (by kernel_rfl) (by kernel_rfl) (by kernel_rfl) (fun c a w h => hp c a _ _ w h) (Or.inl ⟨by rfl, fun W h => by go_simp; omega⟩) V5 ?_
  simp only [Act.put, List.setIfInBounds_toArray, List.set_cons_zero, List.set_cons_succ]
  refine wpAnyG_takeD (i := 26) (d := 3) (.string (S ++ (ByteArray.mk #[116, 104, 114, 101, 97, 100, 32]) ++ D1 ++ (ByteArray.mk #[32]) ++ X1 ++ (ByteArray.mk #[32]) ++ X2 ++ (ByteArray.mk #[32]) ++ D2 ++ BL ++ (ByteArray.mk #[10]))) rfl rfl (by kernel_rfl) (by kernel_rfl) (by kernel_rfl) (by kernel_rfl) (by kernel_rfl) (by kernel_rfl) (fun c a w h => hp c a _ _ w h) (Or.inl ⟨by rfl, fun W h => by go_simp⟩) V5 ?_
  simp only [Act.put, List.setIfInBounds_toArray, List.set_cons_zero, List.set_cons_succ]
  refine wpAnyG_done (by kernel_rfl) ?_ _
  exact hQ _ V5
end Go.Proofs.YtaaeeaknjlammaaGreatDoor

/- A line of an object, as the model puts it together. -/
namespace Go.Proofs.YtaaeeaknjlammaaGreatDoor
open Go Go.RowKit Go.Deep Go.Maps Go.BigFrame Go.Shelf

set_option maxRecDepth 1000000 in
set_option maxHeartbeats 16000000 in
theorem objReg (t : ObjV) (P : Nat) (S D1 D2 D3 X1 X2 BL : ByteArray) (u0 u1 u2 u4 u5 u6 u8 u9 u10 u11 u12 u13 u14 u15 u16 u17 u18 u19 u20 u21 u22 u23 u24 u25 u26 u27 u28 u29 u30 u31 u32 u33 u34 u35 u36 u37 u38 u39 u40 u41 u42 u43 u44 u45 u46 u47 u48 u49 u50 u51 u52 u53 u54 u55 u56 u57 u58 u59 u60 u61 u62 u63 u64 u65 u66 u67 u68 u69 u70 u71 u72 u73 u74 u75 u76 u77 u78 u79 u80 u81 u82 u83 u84 u85 u86 u87 u88 u89 u90 u91 u92 u93 u94 u95 u96 u97 u98 u99 u100 u101 u102 u103 u104 u105 u106 u107 u108 u109 u110 u111 u112 u113 u114 u115 u116 u117 u118 : Value) (V : World) (Q : Exit → Act → World → Prop) (hp : ∀ c a d v w, Q (.panic c) (Act.put a (some d) v) w → Q (.panic c) a w)
    (ED : ∀ args w, (callFunc 22 args).run Tryz.prog w = .ok (.enter 22 args) w) (EX : ∀ args w, (callFunc 20 args).run Tryz.prog w = .ok (.enter 20 args) w) (EL : ∀ args w, (callFunc 23 args).run Tryz.prog w = .ok (.enter 23 args) w) (HA : ∀ W, Below V.heap.size V W → Blk W P (.cells #[.int .i64 t.id, .int .i64 t.kind, .int .i64 t.up, .int .i64 t.b1, .slice t.c1.a t.c1.n t.c1.k, .string t.data, .slice t.items.a t.items.n t.items.k, .slice t.own.a t.own.n t.own.k, .int .i64 t.b2, .slice t.c2.a t.c2.n t.c2.k] 60)) (PD1 : ∀ W, Below V.heap.size V W → Calls Tryz.prog 22 #[.int .i64 t.id] W fun e w' => ∃ v, e = .returned v ∧ v = .string D1 ∧ Below W.heap.size W w') (PD2 : ∀ W, Below V.heap.size V W → Calls Tryz.prog 22 #[.int .i64 t.kind] W fun e w' => ∃ v, e = .returned v ∧ v = .string D2 ∧ Below W.heap.size W w') (PD3 : ∀ W, Below V.heap.size V W → Calls Tryz.prog 22 #[.int .i64 t.up] W fun e w' => ∃ v, e = .returned v ∧ v = .string D3 ∧ Below W.heap.size W w') (PX1 : ∀ W, Below V.heap.size V W → Calls Tryz.prog 20 #[.agg #[.int .i64 t.b1, .slice t.c1.a t.c1.n t.c1.k]] W fun e w' => ∃ v, e = .returned v ∧ v = .string X1 ∧ Below W.heap.size W w') (PX2 : ∀ W, Below V.heap.size V W → Calls Tryz.prog 20 #[.agg #[.int .i64 t.b2, .slice t.c2.a t.c2.n t.c2.k]] W fun e w' => ∃ v, e = .returned v ∧ v = .string X2 ∧ Below W.heap.size W w') (PB : ∀ W, Below V.heap.size V W → Calls Tryz.prog 23 #[.slice t.own.a t.own.n t.own.k] W fun e w' => ∃ v, e = .returned v ∧ v = .string BL ∧ Below W.heap.size W w') (z0 : S.size ≤ 3000000) (z1 : D1.size ≤ 4) (z2 : D2.size ≤ 4) (z3 : D3.size ≤ 4) (z4 : X1.size ≤ 200) (z5 : X2.size ≤ 200) (z6 : BL.size ≤ 2000)
    (hQ : ∀ W, Below V.heap.size V W → Q .normal ⟨#[u0, u1, u2, .string (S ++ (ByteArray.mk #[111, 98, 106, 101, 99, 116, 32]) ++ D1 ++ (ByteArray.mk #[32]) ++ D2 ++ (ByteArray.mk #[32]) ++ D3 ++ (ByteArray.mk #[32]) ++ X1 ++ (ByteArray.mk #[32]) ++ X2 ++ BL ++ (ByteArray.mk #[10])), u4, u5, u6, .pointer (some ⟨P, 0, none⟩), u8, u9, u10, u11, u12, u13, u14, u15, u16, u17, u18, u19, u20, u21, u22, u23, u24, u25, u26, u27, u28, u29, u30, u31, u32, u33, u34, u35, u36, u37, u38, u39, u40, u41, u42, u43, u44, u45, u46, u47, u48, u49, u50, u51, u52, u53, u54, u55, u56, u57, u58, u59, u60, u61, .string S, .string (S ++ (ByteArray.mk #[111, 98, 106, 101, 99, 116, 32])), .pointer (some ⟨P, 0, none⟩), .int .i64 t.id, .string D1, .string (S ++ (ByteArray.mk #[111, 98, 106, 101, 99, 116, 32]) ++ D1), .string (S ++ (ByteArray.mk #[111, 98, 106, 101, 99, 116, 32]) ++ D1 ++ (ByteArray.mk #[32])), .pointer (some ⟨P, 1, none⟩), .int .i64 t.kind, .string D2, .string (S ++ (ByteArray.mk #[111, 98, 106, 101, 99, 116, 32]) ++ D1 ++ (ByteArray.mk #[32]) ++ D2), .string (S ++ (ByteArray.mk #[111, 98, 106, 101, 99, 116, 32]) ++ D1 ++ (ByteArray.mk #[32]) ++ D2 ++ (ByteArray.mk #[32])), .pointer (some ⟨P, 2, none⟩), .int .i64 t.up, .string D3, .string (S ++ (ByteArray.mk #[111, 98, 106, 101, 99, 116, 32]) ++ D1 ++ (ByteArray.mk #[32]) ++ D2 ++ (ByteArray.mk #[32]) ++ D3), .string (S ++ (ByteArray.mk #[111, 98, 106, 101, 99, 116, 32]) ++ D1 ++ (ByteArray.mk #[32]) ++ D2 ++ (ByteArray.mk #[32]) ++ D3 ++ (ByteArray.mk #[32])), .pointer (some ⟨P, 3, none⟩), .agg #[.int .i64 t.b1, .slice t.c1.a t.c1.n t.c1.k], .string X1, .string (S ++ (ByteArray.mk #[111, 98, 106, 101, 99, 116, 32]) ++ D1 ++ (ByteArray.mk #[32]) ++ D2 ++ (ByteArray.mk #[32]) ++ D3 ++ (ByteArray.mk #[32]) ++ X1), .string (S ++ (ByteArray.mk #[111, 98, 106, 101, 99, 116, 32]) ++ D1 ++ (ByteArray.mk #[32]) ++ D2 ++ (ByteArray.mk #[32]) ++ D3 ++ (ByteArray.mk #[32]) ++ X1 ++ (ByteArray.mk #[32])), .pointer (some ⟨P, 8, none⟩), .agg #[.int .i64 t.b2, .slice t.c2.a t.c2.n t.c2.k], .string X2, .string (S ++ (ByteArray.mk #[111, 98, 106, 101, 99, 116, 32]) ++ D1 ++ (ByteArray.mk #[32]) ++ D2 ++ (ByteArray.mk #[32]) ++ D3 ++ (ByteArray.mk #[32]) ++ X1 ++ (ByteArray.mk #[32]) ++ X2), .pointer (some ⟨P, 7, none⟩), .slice t.own.a t.own.n t.own.k, .string BL, .string (S ++ (ByteArray.mk #[111, 98, 106, 101, 99, 116, 32]) ++ D1 ++ (ByteArray.mk #[32]) ++ D2 ++ (ByteArray.mk #[32]) ++ D3 ++ (ByteArray.mk #[32]) ++ X1 ++ (ByteArray.mk #[32]) ++ X2 ++ BL), .string (S ++ (ByteArray.mk #[111, 98, 106, 101, 99, 116, 32]) ++ D1 ++ (ByteArray.mk #[32]) ++ D2 ++ (ByteArray.mk #[32]) ++ D3 ++ (ByteArray.mk #[32]) ++ X1 ++ (ByteArray.mk #[32]) ++ X2 ++ BL ++ (ByteArray.mk #[10])), u93, u94, u95, u96, u97, u98, u99, u100, u101, u102, u103, u104, u105, u106, u107, u108, u109, u110, u111, u112, u113, u114, u115, u116, u117, u118], []⟩ W) :
    Code.wp Tryz.prog (Code.region 13 #[{ dst := some 62, op := Op.move (Operand.tmp 3), type := 9, pos := "l10_texts.go:49", after := #[], guard := none }, { dst := some 63, op := Op.binOp BinOp.add 9 (Operand.tmp 62) (Operand.const (Value.string { data := #[111, 98, 106, 101, 99, 116, 32] })) 9, type := 9, pos := "l10_texts.go:49", after := #[{ on := 0, ground := Ground.data }], guard := none }, { dst := some 64, op := Op.fieldAddr 60 (Operand.tmp 7) 0, type := 0, pos := "l10_texts.go:49", after := #[], guard := none }, { dst := some 65, op := Op.load 2 (Operand.tmp 64), type := 2, pos := "l10_texts.go:49", after := #[{ on := 2, ground := Ground.data }], guard := none }, { dst := some 66, op := Op.call { callee := Callee.value (Operand.func 22), args := #[Operand.tmp 65], argTypes := #[2] }, type := 9, pos := "l10_texts.go:49", after := #[{ on := 3, ground := Ground.data }], guard := none }, { dst := some 67, op := Op.binOp BinOp.add 9 (Operand.tmp 63) (Operand.tmp 66) 9, type := 9, pos := "l10_texts.go:49", after := #[{ on := 1, ground := Ground.data }, { on := 4, ground := Ground.data }], guard := none }, { dst := some 68, op := Op.binOp BinOp.add 9 (Operand.tmp 67) (Operand.const (Value.string { data := #[32] })) 9, type := 9, pos := "l10_texts.go:49", after := #[{ on := 5, ground := Ground.data }], guard := none }, { dst := some 69, op := Op.fieldAddr 60 (Operand.tmp 7) 1, type := 0, pos := "l10_texts.go:49", after := #[], guard := none }, { dst := some 70, op := Op.load 2 (Operand.tmp 69), type := 2, pos := "l10_texts.go:49", after := #[{ on := 7, ground := Ground.data }], guard := none }, { dst := some 71, op := Op.call { callee := Callee.value (Operand.func 22), args := #[Operand.tmp 70], argTypes := #[2] }, type := 9, pos := "l10_texts.go:49", after := #[{ on := 8, ground := Ground.data }, { on := 4, ground := Ground.chain }], guard := none }, { dst := some 72, op := Op.binOp BinOp.add 9 (Operand.tmp 68) (Operand.tmp 71) 9, type := 9, pos := "l10_texts.go:49", after := #[{ on := 6, ground := Ground.data }, { on := 9, ground := Ground.data }], guard := none }, { dst := some 73, op := Op.binOp BinOp.add 9 (Operand.tmp 72) (Operand.const (Value.string { data := #[32] })) 9, type := 9, pos := "l10_texts.go:49", after := #[{ on := 10, ground := Ground.data }], guard := none }, { dst := some 74, op := Op.fieldAddr 60 (Operand.tmp 7) 2, type := 0, pos := "l10_texts.go:49", after := #[], guard := none }, { dst := some 75, op := Op.load 2 (Operand.tmp 74), type := 2, pos := "l10_texts.go:49", after := #[{ on := 12, ground := Ground.data }], guard := none }, { dst := some 76, op := Op.call { callee := Callee.value (Operand.func 22), args := #[Operand.tmp 75], argTypes := #[2] }, type := 9, pos := "l10_texts.go:49", after := #[{ on := 13, ground := Ground.data }, { on := 9, ground := Ground.chain }], guard := none }, { dst := some 77, op := Op.binOp BinOp.add 9 (Operand.tmp 73) (Operand.tmp 76) 9, type := 9, pos := "l10_texts.go:49", after := #[{ on := 11, ground := Ground.data }, { on := 14, ground := Ground.data }], guard := none }, { dst := some 78, op := Op.binOp BinOp.add 9 (Operand.tmp 77) (Operand.const (Value.string { data := #[32] })) 9, type := 9, pos := "l10_texts.go:49", after := #[{ on := 15, ground := Ground.data }], guard := none }, { dst := some 79, op := Op.fieldAddr 60 (Operand.tmp 7) 3, type := 0, pos := "l10_texts.go:49", after := #[], guard := none }, { dst := some 80, op := Op.load 39 (Operand.tmp 79), type := 39, pos := "l10_texts.go:49", after := #[{ on := 17, ground := Ground.data }], guard := none }, { dst := some 81, op := Op.call { callee := Callee.value (Operand.func 20), args := #[Operand.tmp 80], argTypes := #[39] }, type := 9, pos := "l10_texts.go:49", after := #[{ on := 18, ground := Ground.data }, { on := 14, ground := Ground.chain }], guard := none }, { dst := some 82, op := Op.binOp BinOp.add 9 (Operand.tmp 78) (Operand.tmp 81) 9, type := 9, pos := "l10_texts.go:49", after := #[{ on := 16, ground := Ground.data }, { on := 19, ground := Ground.data }], guard := none }, { dst := some 83, op := Op.binOp BinOp.add 9 (Operand.tmp 82) (Operand.const (Value.string { data := #[32] })) 9, type := 9, pos := "l10_texts.go:49", after := #[{ on := 20, ground := Ground.data }], guard := none }, { dst := some 84, op := Op.fieldAddr 60 (Operand.tmp 7) 7, type := 0, pos := "l10_texts.go:49", after := #[], guard := none }, { dst := some 85, op := Op.load 39 (Operand.tmp 84), type := 39, pos := "l10_texts.go:49", after := #[{ on := 22, ground := Ground.data }], guard := none }, { dst := some 86, op := Op.call { callee := Callee.value (Operand.func 20), args := #[Operand.tmp 85], argTypes := #[39] }, type := 9, pos := "l10_texts.go:49", after := #[{ on := 23, ground := Ground.data }, { on := 19, ground := Ground.chain }], guard := none }, { dst := some 87, op := Op.binOp BinOp.add 9 (Operand.tmp 83) (Operand.tmp 86) 9, type := 9, pos := "l10_texts.go:49", after := #[{ on := 21, ground := Ground.data }, { on := 24, ground := Ground.data }], guard := none }, { dst := some 88, op := Op.fieldAddr 60 (Operand.tmp 7) 6, type := 0, pos := "l10_texts.go:49", after := #[], guard := none }, { dst := some 89, op := Op.load 52 (Operand.tmp 88), type := 52, pos := "l10_texts.go:49", after := #[{ on := 26, ground := Ground.data }], guard := none }, { dst := some 90, op := Op.call { callee := Callee.value (Operand.func 23), args := #[Operand.tmp 89], argTypes := #[52] }, type := 9, pos := "l10_texts.go:49", after := #[{ on := 27, ground := Ground.data }, { on := 24, ground := Ground.chain }], guard := none }, { dst := some 91, op := Op.binOp BinOp.add 9 (Operand.tmp 87) (Operand.tmp 90) 9, type := 9, pos := "l10_texts.go:49", after := #[{ on := 25, ground := Ground.data }, { on := 28, ground := Ground.data }], guard := none }, { dst := some 92, op := Op.binOp BinOp.add 9 (Operand.tmp 91) (Operand.const (Value.string { data := #[10] })) 9, type := 9, pos := "l10_texts.go:49", after := #[{ on := 29, ground := Ground.data }], guard := none }, { dst := some 3, op := Op.assign (Operand.tmp 92), type := 9, pos := "l10_texts.go:49", after := #[{ on := 30, ground := Ground.data }, { on := 28, ground := Ground.chain }, { on := 0, ground := Ground.phase }, { on := 1, ground := Ground.phase }, { on := 2, ground := Ground.phase }, { on := 3, ground := Ground.phase }, { on := 4, ground := Ground.phase }, { on := 5, ground := Ground.phase }, { on := 6, ground := Ground.phase }, { on := 7, ground := Ground.phase }, { on := 8, ground := Ground.phase }, { on := 9, ground := Ground.phase }, { on := 10, ground := Ground.phase }, { on := 11, ground := Ground.phase }, { on := 12, ground := Ground.phase }, { on := 13, ground := Ground.phase }, { on := 14, ground := Ground.phase }, { on := 15, ground := Ground.phase }, { on := 16, ground := Ground.phase }, { on := 17, ground := Ground.phase }, { on := 18, ground := Ground.phase }, { on := 19, ground := Ground.phase }, { on := 20, ground := Ground.phase }, { on := 21, ground := Ground.phase }, { on := 22, ground := Ground.phase }, { on := 23, ground := Ground.phase }, { on := 24, ground := Ground.phase }, { on := 25, ground := Ground.phase }, { on := 26, ground := Ground.phase }, { on := 27, ground := Ground.phase }, { on := 28, ground := Ground.phase }, { on := 29, ground := Ground.phase }, { on := 30, ground := Ground.phase }], guard := none }] true) Q ⟨#[u0, u1, u2, .string S, u4, u5, u6, .pointer (some ⟨P, 0, none⟩), u8, u9, u10, u11, u12, u13, u14, u15, u16, u17, u18, u19, u20, u21, u22, u23, u24, u25, u26, u27, u28, u29, u30, u31, u32, u33, u34, u35, u36, u37, u38, u39, u40, u41, u42, u43, u44, u45, u46, u47, u48, u49, u50, u51, u52, u53, u54, u55, u56, u57, u58, u59, u60, u61, u62, u63, u64, u65, u66, u67, u68, u69, u70, u71, u72, u73, u74, u75, u76, u77, u78, u79, u80, u81, u82, u83, u84, u85, u86, u87, u88, u89, u90, u91, u92, u93, u94, u95, u96, u97, u98, u99, u100, u101, u102, u103, u104, u105, u106, u107, u108, u109, u110, u111, u112, u113, u114, u115, u116, u117, u118], []⟩ V := by
  have V0 : Below V.heap.size V V.drew := (Below.refl _ V).drew
  refine wp_region_G 32 (fun W => Below V.heap.size V W) (by kernel_rfl) ?_
  refine wpAnyG_takeD (i := 0) (d := 62) (.string S) rfl rfl (by kernel_rfl) (by kernel_rfl) (by kernel_rfl) (by kernel_rfl) (by kernel_rfl) (by kernel_rfl) (fun c a w h => hp c a _ _ w h) (Or.inl ⟨by rfl, fun W h => by go_simp⟩) V0 ?_
  simp only [Act.put, List.setIfInBounds_toArray, List.set_cons_zero, List.set_cons_succ]
  refine wpAnyG_takeD (i := 1) (d := 63) (.string (S ++ (ByteArray.mk #[111, 98, 106, 101, 99, 116, 32]))) rfl rfl (by kernel_rfl) (by kernel_rfl) (by kernel_rfl) (by kernel_rfl) (by kernel_rfl) (by kernel_rfl) (fun c a w h => hp c a _ _ w h) (Or.inl ⟨by rfl, fun W h => by go_simp; omega⟩) V0 ?_
  simp only [Act.put, List.setIfInBounds_toArray, List.set_cons_zero, List.set_cons_succ]
  refine wpAnyG_takeD (i := 2) (d := 64) (.pointer (some ⟨P, 0, none⟩)) rfl rfl (by kernel_rfl) (by kernel_rfl) (by kernel_rfl) (by kernel_rfl) (by kernel_rfl) (by kernel_rfl) (fun c a w h => hp c a _ _ w h) (Or.inl ⟨by rfl, fun W h => by go_simp⟩) V0 ?_
  simp only [Act.put, List.setIfInBounds_toArray, List.set_cons_zero, List.set_cons_succ]
  refine wpAnyG_takeD (i := 3) (d := 65) (.int .i64 t.id) rfl rfl (by kernel_rfl) (by kernel_rfl) (by kernel_rfl) (by kernel_rfl) (by kernel_rfl) (by kernel_rfl) (fun c a w h => hp c a _ _ w h) (Or.inl ⟨by rfl, fun W h => by obtain ⟨q0, q1, q2, q3, q4, q5, q6, q7, q8, q9⟩ := (HA W h).ten; go_simp⟩) V0 ?_
  simp only [Act.put, List.setIfInBounds_toArray, List.set_cons_zero, List.set_cons_succ]
  refine wpAnyG_takeD (i := 7) (d := 69) (.pointer (some ⟨P, 1, none⟩)) rfl rfl (by kernel_rfl) (by kernel_rfl) (by kernel_rfl) (by kernel_rfl) (by kernel_rfl) (by kernel_rfl) (fun c a w h => hp c a _ _ w h) (Or.inl ⟨by rfl, fun W h => by go_simp⟩) V0 ?_
  simp only [Act.put, List.setIfInBounds_toArray, List.set_cons_zero, List.set_cons_succ]
  refine wpAnyG_takeD (i := 8) (d := 70) (.int .i64 t.kind) rfl rfl (by kernel_rfl) (by kernel_rfl) (by kernel_rfl) (by kernel_rfl) (by kernel_rfl) (by kernel_rfl) (fun c a w h => hp c a _ _ w h) (Or.inl ⟨by rfl, fun W h => by obtain ⟨q0, q1, q2, q3, q4, q5, q6, q7, q8, q9⟩ := (HA W h).ten; go_simp⟩) V0 ?_
  simp only [Act.put, List.setIfInBounds_toArray, List.set_cons_zero, List.set_cons_succ]
  refine wpAnyG_takeD (i := 12) (d := 74) (.pointer (some ⟨P, 2, none⟩)) rfl rfl (by kernel_rfl) (by kernel_rfl) (by kernel_rfl) (by kernel_rfl) (by kernel_rfl) (by kernel_rfl) (fun c a w h => hp c a _ _ w h) (Or.inl ⟨by rfl, fun W h => by go_simp⟩) V0 ?_
  simp only [Act.put, List.setIfInBounds_toArray, List.set_cons_zero, List.set_cons_succ]
  refine wpAnyG_takeD (i := 13) (d := 75) (.int .i64 t.up) rfl rfl (by kernel_rfl) (by kernel_rfl) (by kernel_rfl) (by kernel_rfl) (by kernel_rfl) (by kernel_rfl) (fun c a w h => hp c a _ _ w h) (Or.inl ⟨by rfl, fun W h => by obtain ⟨q0, q1, q2, q3, q4, q5, q6, q7, q8, q9⟩ := (HA W h).ten; go_simp⟩) V0 ?_
  simp only [Act.put, List.setIfInBounds_toArray, List.set_cons_zero, List.set_cons_succ]
  refine wpAnyG_takeD (i := 17) (d := 79) (.pointer (some ⟨P, 3, none⟩)) rfl rfl (by kernel_rfl) (by kernel_rfl) (by kernel_rfl) (by kernel_rfl) (by kernel_rfl) (by kernel_rfl) (fun c a w h => hp c a _ _ w h) (Or.inl ⟨by rfl, fun W h => by go_simp⟩) V0 ?_
  simp only [Act.put, List.setIfInBounds_toArray, List.set_cons_zero, List.set_cons_succ]
  refine wpAnyG_takeD (i := 18) (d := 80) (.agg #[.int .i64 t.b1, .slice t.c1.a t.c1.n t.c1.k]) rfl rfl (by kernel_rfl) (by kernel_rfl) (by kernel_rfl) (by kernel_rfl) (by kernel_rfl) (by kernel_rfl) (fun c a w h => hp c a _ _ w h) (Or.inl ⟨by rfl, fun W h => by obtain ⟨q0, q1, q2, q3, q4, q5, q6, q7, q8, q9⟩ := (HA W h).ten; go_simp⟩) V0 ?_
  simp only [Act.put, List.setIfInBounds_toArray, List.set_cons_zero, List.set_cons_succ]
  refine wpAnyG_takeD (i := 22) (d := 84) (.pointer (some ⟨P, 8, none⟩)) rfl rfl (by kernel_rfl) (by kernel_rfl) (by kernel_rfl) (by kernel_rfl) (by kernel_rfl) (by kernel_rfl) (fun c a w h => hp c a _ _ w h) (Or.inl ⟨by rfl, fun W h => by go_simp⟩) V0 ?_
  simp only [Act.put, List.setIfInBounds_toArray, List.set_cons_zero, List.set_cons_succ]
  refine wpAnyG_takeD (i := 23) (d := 85) (.agg #[.int .i64 t.b2, .slice t.c2.a t.c2.n t.c2.k]) rfl rfl (by kernel_rfl) (by kernel_rfl) (by kernel_rfl) (by kernel_rfl) (by kernel_rfl) (by kernel_rfl) (fun c a w h => hp c a _ _ w h) (Or.inl ⟨by rfl, fun W h => by obtain ⟨q0, q1, q2, q3, q4, q5, q6, q7, q8, q9⟩ := (HA W h).ten; go_simp⟩) V0 ?_
  simp only [Act.put, List.setIfInBounds_toArray, List.set_cons_zero, List.set_cons_succ]
  refine wpAnyG_takeD (i := 26) (d := 88) (.pointer (some ⟨P, 7, none⟩)) rfl rfl (by kernel_rfl) (by kernel_rfl) (by kernel_rfl) (by kernel_rfl) (by kernel_rfl) (by kernel_rfl) (fun c a w h => hp c a _ _ w h) (Or.inl ⟨by rfl, fun W h => by go_simp⟩) V0 ?_
  simp only [Act.put, List.setIfInBounds_toArray, List.set_cons_zero, List.set_cons_succ]
  refine wpAnyG_takeD (i := 27) (d := 89) (.slice t.own.a t.own.n t.own.k) rfl rfl (by kernel_rfl) (by kernel_rfl) (by kernel_rfl) (by kernel_rfl) (by kernel_rfl) (by kernel_rfl) (fun c a w h => hp c a _ _ w h) (Or.inl ⟨by rfl, fun W h => by obtain ⟨q0, q1, q2, q3, q4, q5, q6, q7, q8, q9⟩ := (HA W h).ten; go_simp⟩) V0 ?_
  simp only [Act.put, List.setIfInBounds_toArray, List.set_cons_zero, List.set_cons_succ]
  refine wpAnyG_one (i := 4) (by kernel_rfl) rfl ?_
  intro K hK
  refine step_call1g (by rfl) 22 _ _ (by rfl) ED _ (by rfl) (some 66) (by rfl) _ (PD1 _ V0) ?_
  rintro v w1x ⟨rfl, h1⟩
  have V1 := then_ V0 h1
  refine hK.out _ _ (fun _ => V1) ?_
  clear hK K
  simp only [Act.put, List.setIfInBounds_toArray, List.set_cons_zero, List.set_cons_succ]
  refine wpAnyG_takeD (i := 5) (d := 67) (.string (S ++ (ByteArray.mk #[111, 98, 106, 101, 99, 116, 32]) ++ D1)) rfl rfl (by kernel_rfl) (by kernel_rfl) (by kernel_rfl) (by kernel_rfl) (by kernel_rfl) (by kernel_rfl) (fun c a w h => hp c a _ _ w h) (Or.inl ⟨by rfl, fun W h => by go_simp; omega⟩) V1 ?_
  simp only [Act.put, List.setIfInBounds_toArray, List.set_cons_zero, List.set_cons_succ]
  refine wpAnyG_takeD (i := 6) (d := 68) (.string (S ++ (ByteArray.mk #[111, 98, 106, 101, 99, 116, 32]) ++ D1 ++ (ByteArray.mk #[32]))) rfl rfl (by kernel_rfl) (by kernel_rfl) (by kernel_rfl) (by kernel_rfl) (by kernel_rfl) (by kernel_rfl) (fun c a w h => hp c a _ _ w h) (Or.inl ⟨by rfl, fun W h => by go_simp; omega⟩) V1 ?_
  simp only [Act.put, List.setIfInBounds_toArray, List.set_cons_zero, List.set_cons_succ]
  refine wpAnyG_one (i := 9) (by kernel_rfl) rfl ?_
  intro K hK
  refine step_call1g (by rfl) 22 _ _ (by rfl) ED _ (by rfl) (some 71) (by rfl) _ (PD2 _ V1) ?_
  rintro v w2x ⟨rfl, h2⟩
  have V2 := then_ V1 h2
  refine hK.out _ _ (fun _ => V2) ?_
  clear hK K
  simp only [Act.put, List.setIfInBounds_toArray, List.set_cons_zero, List.set_cons_succ]
  refine wpAnyG_takeD (i := 10) (d := 72) (.string (S ++ (ByteArray.mk #[111, 98, 106, 101, 99, 116, 32]) ++ D1 ++ (ByteArray.mk #[32]) ++ D2)) rfl rfl (by kernel_rfl) (by kernel_rfl) (by kernel_rfl) (by kernel_rfl) (by kernel_rfl) (by kernel_rfl) (fun c a w h => hp c a _ _ w h) (Or.inl ⟨by rfl, fun W h => by go_simp; omega⟩) V2 ?_
  simp only [Act.put, List.setIfInBounds_toArray, List.set_cons_zero, List.set_cons_succ]
  refine wpAnyG_takeD (i := 11) (d := 73) (.string (S ++ (ByteArray.mk #[111, 98, 106, 101, 99, 116, 32]) ++ D1 ++ (ByteArray.mk #[32]) ++ D2 ++ (ByteArray.mk #[32]))) rfl rfl (by kernel_rfl) (by kernel_rfl) (by kernel_rfl) (by kernel_rfl) (by kernel_rfl) (by kernel_rfl) (fun c a w h => hp c a _ _ w h) (Or.inl ⟨by rfl, fun W h => by go_simp; omega⟩) V2 ?_
  simp only [Act.put, List.setIfInBounds_toArray, List.set_cons_zero, List.set_cons_succ]
  refine wpAnyG_one (i := 14) (by kernel_rfl) rfl ?_
  intro K hK
  refine step_call1g (by rfl) 22 _ _ (by rfl) ED _ (by rfl) (some 76) (by rfl) _ (PD3 _ V2) ?_
  rintro v w3x ⟨rfl, h3⟩
  have V3 := then_ V2 h3
  refine hK.out _ _ (fun _ => V3) ?_
  clear hK K
  simp only [Act.put, List.setIfInBounds_toArray, List.set_cons_zero, List.set_cons_succ]
  refine wpAnyG_takeD (i := 15) (d := 77) (.string (S ++ (ByteArray.mk #[111, 98, 106, 101, 99, 116, 32]) ++ D1 ++ (ByteArray.mk #[32]) ++ D2 ++ (ByteArray.mk #[32]) ++ D3)) rfl rfl (by kernel_rfl) (by kernel_rfl) (by kernel_rfl) (by kernel_rfl) (by kernel_rfl) (by kernel_rfl) (fun c a w h => hp c a _ _ w h) (Or.inl ⟨by rfl, fun W h => by go_simp; omega⟩) V3 ?_
  simp only [Act.put, List.setIfInBounds_toArray, List.set_cons_zero, List.set_cons_succ]
  refine wpAnyG_takeD (i := 16) (d := 78) (.string (S ++ (ByteArray.mk #[111, 98, 106, 101, 99, 116, 32]) ++ D1 ++ (ByteArray.mk #[32]) ++ D2 ++ (ByteArray.mk #[32]) ++ D3 ++ (ByteArray.mk #[32]))) rfl rfl (by kernel_rfl) (by kernel_rfl) (by kernel_rfl) (by kernel_rfl) (by kernel_rfl) (by kernel_rfl) (fun c a w h => hp c a _ _ w h) (Or.inl ⟨by rfl, fun W h => by go_simp; omega⟩) V3 ?_
  simp only [Act.put, List.setIfInBounds_toArray, List.set_cons_zero, List.set_cons_succ]
  refine wpAnyG_one (i := 19) (by kernel_rfl) rfl ?_
  intro K hK
  refine step_call1g (by rfl) 20 _ _ (by rfl) EX _ (by rfl) (some 81) (by rfl) _ (PX1 _ V3) ?_
  rintro v w4x ⟨rfl, h4⟩
  have V4 := then_ V3 h4
  refine hK.out _ _ (fun _ => V4) ?_
  clear hK K
  simp only [Act.put, List.setIfInBounds_toArray, List.set_cons_zero, List.set_cons_succ]
  refine wpAnyG_takeD (i := 20) (d := 82) (.string (S ++ (ByteArray.mk #[111, 98, 106, 101, 99, 116, 32]) ++ D1 ++ (ByteArray.mk #[32]) ++ D2 ++ (ByteArray.mk #[32]) ++ D3 ++ (ByteArray.mk #[32]) ++ X1)) rfl rfl (by kernel_rfl) (by kernel_rfl) (by kernel_rfl) (by kernel_rfl) (by kernel_rfl) (by kernel_rfl) (fun c a w h => hp c a _ _ w h) (Or.inl ⟨by rfl, fun W h => by go_simp; omega⟩) V4 ?_
  simp only [Act.put, List.setIfInBounds_toArray, List.set_cons_zero, List.set_cons_succ]
  refine wpAnyG_takeD (i := 21) (d := 83) (.string (S ++ (ByteArray.mk #[111, 98, 106, 101, 99, 116, 32]) ++ D1 ++ (ByteArray.mk #[32]) ++ D2 ++ (ByteArray.mk #[32]) ++ D3 ++ (ByteArray.mk #[32]) ++ X1 ++ (ByteArray.mk #[32]))) rfl rfl (by kernel_rfl) (by kernel_rfl) (by kernel_rfl) (by kernel_rfl) (by kernel_rfl) (by kernel_rfl) (fun c a w h => hp c a _ _ w h) (Or.inl ⟨by rfl, fun W h => by go_simp; omega⟩) V4 ?_
  simp only [Act.put, List.setIfInBounds_toArray, List.set_cons_zero, List.set_cons_succ]
  refine wpAnyG_one (i := 24) (by kernel_rfl) rfl ?_
  intro K hK
  refine step_call1g (by rfl) 20 _ _ (by rfl) EX _ (by rfl) (some 86) (by rfl) _ (PX2 _ V4) ?_
  rintro v w5x ⟨rfl, h5⟩
  have V5 := then_ V4 h5
  refine hK.out _ _ (fun _ => V5) ?_
  clear hK K
  simp only [Act.put, List.setIfInBounds_toArray, List.set_cons_zero, List.set_cons_succ]
  refine wpAnyG_takeD (i := 25) (d := 87) (.string (S ++ (ByteArray.mk #[111, 98, 106, 101, 99, 116, 32]) ++ D1 ++ (ByteArray.mk #[32]) ++ D2 ++ (ByteArray.mk #[32]) ++ D3 ++ (ByteArray.mk #[32]) ++ X1 ++ (ByteArray.mk #[32]) ++ X2)) rfl rfl (by kernel_rfl) (by kernel_rfl) (by kernel_rfl) (by kernel_rfl) (by kernel_rfl) (by kernel_rfl) (fun c a w h => hp c a _ _ w h) (Or.inl ⟨by rfl, fun W h => by go_simp; omega⟩) V5 ?_
  simp only [Act.put, List.setIfInBounds_toArray, List.set_cons_zero, List.set_cons_succ]
  refine wpAnyG_one (i := 28) (by kernel_rfl) rfl ?_
  intro K hK
  refine step_call1g (by rfl) 23 _ _ (by rfl) EL _ (by rfl) (some 90) (by rfl) _ (PB _ V5) ?_
  rintro v w6x ⟨rfl, h6⟩
  have V6 := then_ V5 h6
  refine hK.out _ _ (fun _ => V6) ?_
  clear hK K
  simp only [Act.put, List.setIfInBounds_toArray, List.set_cons_zero, List.set_cons_succ]
  refine wpAnyG_takeD (i := 29) (d := 91) (.string (S ++ (ByteArray.mk #[111, 98, 106, 101, 99, 116, 32]) ++ D1 ++ (ByteArray.mk #[32]) ++ D2 ++ (ByteArray.mk #[32]) ++ D3 ++ (ByteArray.mk #[32]) ++ X1 ++ (ByteArray.mk #[32]) ++ X2 ++ BL)) rfl rfl (by kernel_rfl) (by kernel_rfl) (by kernel_rfl) (by kernel_rfl) (by kernel_rfl) (by kernel_rfl) (fun c a w h => hp c a _ _ w h) (Or.inl ⟨by rfl, fun W h => by go_simp; omega⟩) V6 ?_
  simp only [Act.put, List.setIfInBounds_toArray, List.set_cons_zero, List.set_cons_succ]
  refine wpAnyG_takeD (i := 30) (d := 92) (.string (S ++ (ByteArray.mk #[111, 98, 106, 101, 99, 116, 32]) ++ D1 ++ (ByteArray.mk #[32]) ++ D2 ++ (ByteArray.mk #[32]) ++ D3 ++ (ByteArray.mk #[32]) ++ X1 ++ (ByteArray.mk #[32]) ++ X2 ++ BL ++ (ByteArray.mk #[10]))) rfl rfl (by kernel_rfl) (by kernel_rfl) (by kernel_rfl) (by kernel_rfl) (by kernel_rfl) (by kernel_rfl) (fun c a w h => hp c a _ _ w h) (Or.inl ⟨by rfl, fun W h => by go_simp; omega⟩) V6 ?_
  simp only [Act.put, List.setIfInBounds_toArray, List.set_cons_zero, List.set_cons_succ]
  refine wpAnyG_takeD (i := 31) (d := 3) (.string (S ++ (ByteArray.mk #[111, 98, 106, 101, 99, 116, 32]) ++ D1 ++ (ByteArray.mk #[32]) ++ D2 ++ (ByteArray.mk #[32]) ++ D3 ++ (ByteArray.mk #[32]) ++ X1 ++ (ByteArray.mk #[32]) ++ X2 ++ BL ++ (ByteArray.mk #[10]))) rfl rfl (by kernel_rfl) (by kernel_rfl) (by kernel_rfl) (by kernel_rfl) (by kernel_rfl) (by kernel_rfl) (fun c a w h => hp c a _ _ w h) (Or.inl ⟨by rfl, fun W h => by go_simp⟩) V6 ?_
  simp only [Act.put, List.setIfInBounds_toArray, List.set_cons_zero, List.set_cons_succ]
  refine wpAnyG_done (by kernel_rfl) ?_ _
  exact hQ _ V6
end Go.Proofs.YtaaeeaknjlammaaGreatDoor
