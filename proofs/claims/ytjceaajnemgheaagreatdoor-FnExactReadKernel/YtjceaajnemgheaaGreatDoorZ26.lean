/- What is read, written again, has just its bytes: plainly. -/
import Derived.Test.YtjceaajnemgheaaGreatDoorLI
import Derived.Test.YtjceaajnemgheaaGreatDoorZ16
import Derived.Lib.Join
namespace Go.Proofs.YtjceaajnemgheaaGreatDoor


theorem digit_ofNat {n : Nat} (h : n < 10) : digitB (UInt8.ofNat (48 + n)) = true := by
  have e : (UInt8.ofNat (48 + n)).toNat = 48 + n := UInt8.toNat_ofNat_of_lt' (by simp [UInt8.size]; omega)
  simp only [digitB, e]
  simp
  omega
theorem decL_digits (n : Nat) : (decL n).all digitB = true := by
  induction n using Nat.strongRecOn with
  | _ n ih =>
    by_cases h : n < 10
    · rw [decL_small h, List.all_cons, digit_ofNat h, List.all_nil]; rfl
    · rw [decL_big h, List.all_append, ih (n / 10) (by omega)]
      rw [List.all_cons, digit_ofNat (show n % 10 < 10 by omega), List.all_nil]; rfl
theorem toNat_digit {n : Nat} (h : n < 10) : (UInt8.ofNat (48 + n)).toNat - 48 = n := by
  have e : (UInt8.ofNat (48 + n)).toNat = 48 + n := UInt8.toNat_ofNat_of_lt' (by simp [UInt8.size]; omega)
  omega
theorem val_dec (n : Nat) : valL (decL n) = n := by
  induction n using Nat.strongRecOn with
  | _ n ih =>
    by_cases h : n < 10
    · rw [decL_small h]
      have := toNat_digit h
      simp only [valL, List.foldl_cons, List.foldl_nil]
      omega
    · rw [decL_big h, valL_snoc, ih (n / 10) (by omega), toNat_digit (by omega)]
      omega
theorem decL_len_le (k : Nat) : ∀ n, n < 10 ^ (k + 1) → (decL n).length ≤ k + 1 := by
  induction k with
  | zero => intro n h; rw [decL_small (by simpa using h)]; simp
  | succ k ih =>
    intro n h
    by_cases hs : n < 10
    · rw [decL_small hs]; simp
    · rw [decL_big hs, List.length_append]
      have := ih (n / 10) (by rw [Nat.pow_succ] at h; omega)
      simp
      omega
theorem decL_pos_len (n : Nat) : 1 ≤ (decL n).length := by
  by_cases h : n < 10
  · rw [decL_small h]; simp
  · rw [decL_big h]; simp
theorem decL_head : ∀ n, 1 ≤ n → (decL n)[0]? ≠ some 48 := by
  intro n
  induction n using Nat.strongRecOn with
  | _ n ih =>
    intro hp
    by_cases h : n < 10
    · rw [decL_small h]
      simp only [List.getElem?_cons_zero, ne_eq, Option.some.injEq]
      intro e
      have e' := congrArg UInt8.toNat e
      rw [UInt8.toNat_ofNat_of_lt' (by simp [UInt8.size]; omega)] at e'
      simp at e'
      omega
    · rw [decL_big h, List.getElem?_append_left (decL_pos_len _)]
      exact ih (n / 10) (by omega) (by omega)
theorem okD_dec {n : Nat} (h : n < 10 ^ 10) : okD (decL n) = true := by
  have h1 := decL_pos_len n
  have h2 := decL_len_le 9 n h
  have h3 : (decide ((decL n)[0]? ≠ some 48) || decide ((decL n).length ≤ 1)) = true := by
    by_cases hs : n < 10
    · rw [decL_small hs]; simp
    · rw [Bool.or_eq_true, decide_eq_true_eq]; exact .inl (decL_head n (by omega))
  unfold okD
  rw [h3, decL_digits]
  simp [h1, h2]

theorem cutL_at {c : UInt8} {D : List UInt8} (h : ∀ b ∈ D, b ≠ c) (R : List UInt8) : cutL c (D ++ c :: R) = (D, R, true) := by
  induction D with
  | nil => simp [cutL]
  | cons b D ih =>
    have hb : ¬ b = c := h b (by simp)
    simp [cutL, hb, ih (fun x hx => h x (by simp [hx]))]
theorem cutL_no {c : UInt8} {D : List UInt8} (h : ∀ b ∈ D, b ≠ c) : cutL c D = (D, [], false) := by
  induction D with
  | nil => rfl
  | cons b D ih =>
    have hb : ¬ b = c := h b (by simp)
    simp [cutL, hb, ih (fun x hx => h x (by simp [hx]))]
theorem digit_not {c : UInt8} (hc : digitB c = false) (n : Nat) : ∀ b ∈ decL n, b ≠ c := fun b hb e => by
  have := List.all_eq_true.1 (decL_digits n) b hb
  rw [e, hc] at this
  exact absurd this (by simp)
def piece (c : Int × Int) : List UInt8 := decL c.1.toNat ++ 58 :: decL c.2.toNat
theorem catText_piece (c : Int × Int) : catText c = 44 :: piece c := rfl
theorem piece_no44 (c : Int × Int) : ∀ b ∈ piece c, b ≠ 44 := fun b hb => by
  unfold piece at hb
  rw [List.mem_append, List.mem_cons] at hb
  rcases hb with hb | rfl | hb
  · exact digit_not (by decide) _ b hb
  · decide
  · exact digit_not (by decide) _ b hb
def Fit (c : Int × Int) : Prop := (0 ≤ c.1 ∧ c.1 < 10 ^ 10) ∧ (0 ≤ c.2 ∧ c.2 < 10 ^ 10)
theorem piece_cut (c : Int × Int) : cutL 58 (piece c) = (decL c.1.toNat, decL c.2.toNat, true) := cutL_at (digit_not (by decide) _) _
theorem piece_ok {c : Int × Int} (h : Fit c) : catOkL (piece c) = true ∧ catL (piece c) = c := by
  obtain ⟨⟨h1, h2⟩, ⟨h3, h4⟩⟩ := h
  have o1 : okD (decL c.1.toNat) = true := okD_dec (by omega)
  have o2 : okD (decL c.2.toNat) = true := okD_dec (by omega)
  unfold catOkL catL numL
  rw [piece_cut]
  simp only [o1, o2, val_dec, if_true, Bool.and_self, true_and]
  rw [Int.toNat_of_nonneg h1, Int.toNat_of_nonneg h3]

theorem gather_txt : ∀ (cs : List (Int × Int)) (c : Int × Int) (n : Nat) (acc : List (Int × Int)), cs.length + 1 ≤ n → Fit c → (∀ x ∈ cs, Fit x) → gather n (piece c ++ (cs.map catText).flatten) true acc = some (acc ++ c :: cs) := by
  intro cs
  induction cs with
  | nil =>
    intro c n acc hn hc _
    obtain ⟨q, rfl⟩ : ∃ q, n = q + 1 := ⟨n - 1, by simp at hn; omega⟩
    obtain ⟨p1, p2⟩ := piece_ok hc
    have e : cutL 44 (piece c ++ ([].map catText).flatten) = (piece c, [], false) := by simpa using cutL_no (piece_no44 c)
    rw [gather_next q _ _ (by rw [e]; exact p1), e, p2]
    exact gather_false _ _ _
  | cons d cs ih =>
    intro c n acc hn hc hcs
    obtain ⟨q, rfl⟩ : ∃ q, n = q + 1 := ⟨n - 1, by simp at hn; omega⟩
    obtain ⟨p1, p2⟩ := piece_ok hc
    have e : cutL 44 (piece c ++ ((d :: cs).map catText).flatten) = (piece c, piece d ++ (cs.map catText).flatten, true) := by
      rw [List.map_cons, List.flatten_cons, catText_piece, List.cons_append]
      exact cutL_at (piece_no44 c) _
    rw [gather_next q _ _ (by rw [e]; exact p1), e, p2]
    show gather q _ true _ = _
    rw [ih d q (acc ++ [c]) (by simp at hn; omega) (hcs d (by simp)) (fun x hx => hcs x (by simp [hx]))]
    simp

theorem labOk_fit {b : Int} {l : List (Int × Int)} (h : labOk b l.length (fstAt l) (sndAt l) = true) : ∀ x ∈ l, Fit x := fun x hx => by
  obtain ⟨i, hi, rfl⟩ := List.getElem_of_mem hx
  have := catOk_iff.1 ((labOk_out h).2.2 i hi)
  simp [fstAt, sndAt, hi] at this
  unfold Fit
  omega
theorem read_txt {b : Int} {l : List (Int × Int)} (h : labOk b l.length (fstAt l) (sndAt l) = true) : readL (txt b l) = (b, l, true) := by
  obtain ⟨h1, h2, _⟩ := labOk_out h
  have hb := inB_iff.1 h1
  have hfit := labOk_fit h
  have o1 : okD (decL b.toNat) = true := okD_dec (by omega)
  have nb : numL (decL b.toNat) = b := by
    unfold numL
    rw [if_pos o1, val_dec]
    omega
  have nd := digit_not (c := 44) (by decide) b.toNat
  have key : cutL 44 (txt b l) = (decL b.toNat, (cutL 44 (txt b l)).2.1, (cutL 44 (txt b l)).2.2) ∧ gather 12 (cutL 44 (txt b l)).2.1 (cutL 44 (txt b l)).2.2 [] = some l := by
    cases l with
    | nil =>
      have e : cutL 44 (txt b []) = (decL b.toNat, [], false) := by simpa [txt] using cutL_no nd
      rw [e]
      exact ⟨rfl, rfl⟩
    | cons c cs =>
      have e : cutL 44 (txt b (c :: cs)) = (decL b.toNat, piece c ++ (cs.map catText).flatten, true) := by
        unfold txt
        rw [List.map_cons, List.flatten_cons, catText_piece, List.cons_append]
        exact cutL_at nd _
      rw [e]
      exact ⟨rfl, by simpa using gather_txt cs c 12 [] (by simpa using h2) (hfit c (by simp)) (fun x hx => hfit x (by simp [hx]))⟩
  obtain ⟨k1, k2⟩ := key
  unfold readL
  rw [k1]
  simp only
  rw [if_pos o1, k2, nb]
  simp [fin, h]
theorem read_nil : readL [] = (0, [], false) := by simp [readL, cutL, okD]

theorem Keeps.ends {S : List UInt8} {base : Int} {G : Option (List (Int × Int))} {l : List (Int × Int)} (hG : G = some l) : ∀ (n : Nat) (R : List UInt8) (mo : Bool) (l0 : List (Int × Int)), l0.length + n = 12 → Keeps S base G R mo l0 → S = txt base l := by
  intro n
  induction n with
  | zero =>
    intro R mo l0 hl h
    obtain ⟨h1, _, h3⟩ := h
    have hg := h1 (by omega)
    have e : 12 - l0.length = 0 := by omega
    rw [e, hG] at hg
    cases mo with
    | true => rw [gather_full] at hg; cases hg
    | false =>
      rw [gather_false] at hg
      cases hg
      simpa using h3
  | succ n ih =>
    intro R mo l0 hl h
    cases mo with
    | false =>
      obtain ⟨h1, _, h3⟩ := h
      have hg := h1 (by omega)
      rw [gather_false, hG] at hg
      cases hg
      simpa using h3
    | true =>
      cases hc : catOkL (cutL 44 R).1 with
      | false =>
        have := h.bad (by omega) hc
        rw [hG] at this
        cases this
      | true => exact ih _ _ _ (by rw [List.length_append]; simp; omega) (h.next (by omega) hc)
theorem read_back {S : List UInt8} {b : Int} {l : List (Int × Int)} (h : readL S = (b, l, true)) : labOk b l.length (fstAt l) (sndAt l) = true ∧ txt b l = S := by
  unfold readL at h
  split at h
  · rename_i ho
    unfold fin at h
    split at h
    · rename_i cats hg
      split at h
      · rename_i hok
        cases h
        exact ⟨hok, ((Keeps.start ho).ends hg 12 _ _ _ rfl).symm⟩
      · cases h
    · cases h
  · cases h
end Go.Proofs.YtjceaajnemgheaaGreatDoor
namespace Go.Proofs.YtjceaajnemgheaaGreatDoor
def rst : Nat → List UInt8 → List UInt8
  | 0, L => L
  | k + 1, L => (cutL 32 (rst k L)).2.1
def pce (k : Nat) (L : List UInt8) : List UInt8 := (cutL 32 (rst k L)).1
def fnd (k : Nat) (L : List UInt8) : Bool := (cutL 32 (rst k L)).2.2
theorem rst_len (k : Nat) (L : List UInt8) : (rst k L).length ≤ L.length := by
  induction k with
  | zero => exact Nat.le_refl _
  | succ k ih => exact Nat.le_trans (cutL_len2 32 _) ih
theorem pce_len (k : Nat) (L : List UInt8) : (pce k L).length ≤ L.length := Nat.le_trans (cutL_len1 32 _) (rst_len k L)
def rl (k : Nat) (L : List UInt8) : Int × List (Int × Int) × Bool := readL (pce k L)
def nm (k : Nat) (L : List UInt8) : Int := numL (pce k L)
def numAtB (k : Nat) (L : List UInt8) : Bool := fnd k L && okD (pce k L)
def labAtB (k : Nat) (L : List UInt8) : Bool := fnd k L && (rl k L).2.2
theorem txt_no {c : UInt8} (h0 : digitB c = false) (h1 : c ≠ 44) (h2 : c ≠ 58) (b : Int) (l : List (Int × Int)) : ∀ x ∈ txt b l, x ≠ c := fun x hx => by
  unfold txt at hx
  rw [List.mem_append] at hx
  rcases hx with hx | hx
  · exact digit_not h0 _ x hx
  · rw [List.mem_flatten] at hx
    obtain ⟨t, ht, hx⟩ := hx
    rw [List.mem_map] at ht
    obtain ⟨k, _, rfl⟩ := ht
    unfold catText at hx
    rw [List.mem_cons, List.mem_append, List.mem_cons] at hx
    rcases hx with rfl | hx | rfl | hx
    · exact fun e => h1 e.symm
    · exact digit_not h0 _ x hx
    · exact fun e => h2 e.symm
    · exact digit_not h0 _ x hx
theorem readL_len (L : List UInt8) : (readL L).2.1.length ≤ 12 := by
  unfold readL
  split
  · unfold fin
    split
    · split
      · rename_i h
        exact (labOk_out h).2.1
      · simp
    · simp
  · simp
end Go.Proofs.YtjceaajnemgheaaGreatDoor
namespace Go.Proofs.YtjceaajnemgheaaGreatDoor
open Go Go.RowKit Go.Deep

theorem kerOk_objs {k : KerV} (h : kerOk k = true) : objsOk k.on k.O = true := by
  simp only [kerOk, Bool.and_eq_true] at h
  exact h.1.1.1.2
theorem ups_box {k : KerV} (h : kerOk k = true) {c : Nat} (hc : c < k.on) (h0 : c ≠ 0) : ∃ u, findI (fun i => (k.O i).id) k.on (k.O c).up = some u := by
  have hp : upsOk k.on k.O = true := by
    simp only [kerOk, Bool.and_eq_true] at h
    exact h.1.2
  have hu := all_out hp (c - 1) (by omega)
  have e : c - 1 + 1 = c := by omega
  simp only [e] at hu
  unfold boxAt at hu
  split at hu
  · rename_i u hu'; exact ⟨u, hu'⟩
  · cases hu
end Go.Proofs.YtjceaajnemgheaaGreatDoor
namespace Go.Proofs.YtjceaajnemgheaaGreatDoor
open Go

def dc (x : Int) : List UInt8 := decL x.toNat
def lb (b : Int) (c : CatL) : List UInt8 := txt b (catsTo c.f c.g c.n)
def bl (ns : List Int) : List UInt8 := (ns.map fun x => 32 :: dc x).flatten
def nums (c : IntL) : List Int := (List.range c.n).map c.h
theorem bl_snoc (ns : List Int) (x : Int) : bl (ns ++ [x]) = bl ns ++ 32 :: dc x := by simp [bl]
theorem bl_app (a b : List Int) : bl (a ++ b) = bl a ++ bl b := by simp [bl]
def small (x : Int) : Prop := 0 ≤ x ∧ x ≤ 9999
theorem dc_len {x : Int} (h : small x) : (dc x).length ≤ 4 := decL_len_le 3 _ (by have := h.2; have := h.1; show x.toNat < 10000; omega)
theorem bl_len {ns : List Int} (h : ∀ x ∈ ns, small x) : (bl ns).length ≤ 5 * ns.length := by
  induction ns with
  | nil => simp [bl]
  | cons x ns ih =>
    have h1 := ih (fun y hy => h y (List.mem_cons_of_mem _ hy))
    have h2 := dc_len (h x (List.mem_cons_self ..))
    have e : bl (x :: ns) = (32 :: dc x) ++ bl ns := by simp [bl]
    rw [e, List.length_append, List.length_cons, List.length_cons]
    omega
theorem lab_small {b : Int} {c : CatL} (h : labOk b c.n c.f c.g = true) : small b ∧ c.n ≤ 12 ∧ ∀ i, i < c.n → small (c.f i) ∧ small (c.g i) := by
  obtain ⟨h1, h2, h3⟩ := labOk_out h
  have h1' := inB_iff.1 h1
  refine ⟨⟨h1'.1, by have := h1'.2; omega⟩, h2, fun i hi => ?_⟩
  have := h3 i hi
  simp only [catOk, Bool.and_eq_true] at this
  have f1 := inB_iff.1 this.1.1.1
  have g1 := inB_iff.1 this.1.1.2
  exact ⟨⟨by omega, f1.2⟩, ⟨g1.1, by omega⟩⟩
theorem lb_len {b : Int} {c : CatL} (h : labOk b c.n c.f c.g = true) : (lb b c).length ≤ 200 := by
  obtain ⟨h1, h2, h3⟩ := lab_small h
  have key : ∀ k, k ≤ c.n → (txt b (catsTo c.f c.g k)).length ≤ 4 + k * 10 := fun k => by
    induction k with
    | zero => intro _; simp [txt, catsTo]; exact dc_len h1
    | succ k ih =>
      intro hk
      have := ih (by omega)
      have d1 := dc_len (h3 k (by omega)).1
      have d2 := dc_len (h3 k (by omega)).2
      unfold dc at d1 d2
      rw [catsTo_succ, txt_snoc, List.length_append]
      simp only [catText, List.length_cons, List.length_append]
      omega
  have := key c.n (Nat.le_refl _)
  unfold lb
  omega
theorem own_small {c : IntL} (h : ownOk c.n c.h = true) : c.n ≤ 10 ∧ ∀ x ∈ nums c, small x := by
  obtain ⟨h1, h2⟩ := ownOk_out h
  refine ⟨h1, fun x hx => ?_⟩
  unfold nums at hx
  obtain ⟨i, hi, rfl⟩ := List.mem_map.1 hx
  have := h2 i (List.mem_range.1 hi)
  simp only [ownAt, Bool.and_eq_true] at this
  have f1 := inB_iff.1 this.1
  exact ⟨by omega, f1.2⟩
theorem nums_len (c : IntL) : (nums c).length = c.n := by simp [nums]

def thrW : List UInt8 := [116, 104, 114, 101, 97, 100]
def objW : List UInt8 := [111, 98, 106, 101, 99, 116]
def datW : List UInt8 := [100, 97, 116, 97]
def itmW : List UInt8 := [105, 116, 101, 109]
def lineL (ws : List (List UInt8)) : List UInt8 := Lib.join ws [32] ++ [10]
def thrX (t : ThrV) : List UInt8 := lineL ([thrW, dc t.id, lb t.b1 t.c1, lb t.b2 t.c2, dc t.made] ++ (nums t.own).map dc)
def objX (o : ObjV) (ks : List Int) : List UInt8 := lineL ([objW, dc o.id, dc o.kind, dc o.up, lb o.b1 o.c1, lb o.b2 o.c2] ++ (nums o.own).map dc ++ ks.map dc)
def datX (d : ByteArray) : List UInt8 := if d.toList.isEmpty = true then [] else lineL [datW, d.data.toList]
def itmX (f : Nat → ByteArray) (j : Nat) : List UInt8 := ((List.range j).map fun i => lineL [itmW, (f i).data.toList]).flatten
theorem itmX_succ (f : Nat → ByteArray) (j : Nat) : itmX f (j + 1) = itmX f j ++ lineL [itmW, (f j).data.toList] := by simp [itmX, List.range_succ]
def objT (o : ObjV) (ks : List Int) : List UInt8 := objX o ks ++ datX o.data ++ itmX o.items.f o.items.n
def thrsX (T : Nat → ThrV) (n : Nat) : List UInt8 := ((List.range n).map fun i => thrX (T i)).flatten
def objsX (O : Nat → ObjV) (n : Nat) : List UInt8 := ((List.range n).map fun i => objT (O i) []).flatten
theorem thrsX_succ (T : Nat → ThrV) (n : Nat) : thrsX T (n + 1) = thrsX T n ++ thrX (T n) := by simp [thrsX, List.range_succ]
theorem objsX_succ (O : Nat → ObjV) (n : Nat) : objsX O (n + 1) = objsX O n ++ objT (O n) [] := by simp [objsX, List.range_succ]
def kText (k : KerV) : ByteArray := if kerOk k = true then ⟨(thrsX k.T k.tn ++ objsX k.O k.on).toArray⟩ else ⟨#[]⟩
theorem line_thr (t : ThrV) : thrX t = thrW ++ [32] ++ dc t.id ++ [32] ++ lb t.b1 t.c1 ++ [32] ++ lb t.b2 t.c2 ++ [32] ++ dc t.made ++ bl (nums t.own) ++ [10] := by
  unfold thrX lineL
  rw [List.cons_append, Lib.join_cons]
  simp [Lib.joinTail, bl, Function.comp_def]
theorem line_obj (o : ObjV) (ks : List Int) : objX o ks = objW ++ [32] ++ dc o.id ++ [32] ++ dc o.kind ++ [32] ++ dc o.up ++ [32] ++ lb o.b1 o.c1 ++ [32] ++ lb o.b2 o.c2 ++ bl (nums o.own) ++ bl ks ++ [10] := by
  unfold objX lineL
  rw [List.cons_append, List.cons_append, Lib.join_cons]
  simp [Lib.joinTail, bl, Function.comp_def]
theorem line_two (a b : List UInt8) : lineL [a, b] = a ++ [32] ++ b ++ [10] := by
  unfold lineL
  rw [Lib.join_cons]
  simp [Lib.joinTail]
theorem thr_small {t : ThrV} (h : thrOkV t = true) : small t.id ∧ small t.made ∧ labOk t.b1 t.c1.n t.c1.f t.c1.g = true ∧ labOk t.b2 t.c2.n t.c2.f t.c2.g = true ∧ ownOk t.own.n t.own.h = true := by
  simp only [thrOkV, thrOk, Bool.and_eq_true] at h
  have h1 := inB_iff.1 h.1.1.1.1
  have h5 := inB_iff.1 h.2
  exact ⟨⟨by omega, by omega⟩, ⟨h5.1, by omega⟩, h.1.1.1.2, h.1.1.2, h.1.2⟩
theorem thrX_len {t : ThrV} (h : thrOkV t = true) : (thrX t).length ≤ 1000 := by
  obtain ⟨h1, h2, h3, h4, h5⟩ := thr_small h
  have d1 := dc_len h1
  have d2 := dc_len h2
  have d3 := lb_len h3
  have d4 := lb_len h4
  have d5 := bl_len (own_small h5).2
  have d6 := (own_small h5).1
  rw [nums_len] at d5
  rw [line_thr]
  simp only [List.length_append, thrW, List.length_cons, List.length_nil]
  omega
theorem obj_parts {o : ObjV} (h : objOk o = true) : labOk o.b1 o.c1.n o.c1.f o.c1.g = true ∧ labOk o.b2 o.c2.n o.c2.f o.c2.g = true ∧ ownOk o.own.n o.own.h = true ∧ o.data.size ≤ 40 ∧ o.items.n ≤ 8 ∧ (∀ i, i < o.items.n → (o.items.f i).size ≤ 40) ∧ small o.kind := by
  simp only [objOk, Bool.and_eq_true] at h
  obtain ⟨⟨⟨⟨⟨h1, h2⟩, h3⟩, h4⟩, h5⟩, h6⟩ := h
  obtain ⟨i1, i2⟩ := itemsB_out h5
  have p : ∀ {s : ByteArray}, plainB s 40 = true → s.size ≤ 40 := fun hs => by
    simp only [plainB, Bool.and_eq_true, decide_eq_true_eq] at hs
    omega
  refine ⟨h1, h2, h3, p h4, i1, fun i hi => p (i2 i hi), ?_⟩
  unfold kindB at h6
  unfold small
  split at h6
  · omega
  · split at h6
    · omega
    · split at h6
      · omega
      · split at h6
        · omega
        · cases h6
theorem objX_len {o : ObjV} {ks : List Int} (h : objOk o = true) (h1 : small o.id) (h2 : small o.up) (hk : ∀ x ∈ ks, small x) (hn : ks.length ≤ 271) : (objX o ks).length ≤ 3000 := by
  obtain ⟨p1, p2, p3, p4, p5, p6, p7⟩ := obj_parts h
  have d1 := dc_len h1
  have d2 := dc_len h2
  have d3 := dc_len p7
  have d4 := lb_len p1
  have d5 := lb_len p2
  have d6 := bl_len (own_small p3).2
  have d7 := (own_small p3).1
  have d8 := bl_len hk
  rw [nums_len] at d6
  rw [line_obj]
  simp only [List.length_append, objW, List.length_cons, List.length_nil]
  omega
theorem datX_len {d : ByteArray} (h : d.size ≤ 40) : (datX d).length ≤ 50 := by
  unfold datX
  split
  · simp
  · rw [line_two]
    have : d.data.toList.length = d.size := Array.length_toList
    simp only [List.length_append, datW, List.length_cons, List.length_nil]
    omega
theorem itmX_len {f : Nat → ByteArray} {n : Nat} (h : ∀ i, i < n → (f i).size ≤ 40) : (itmX f n).length ≤ 50 * n := by
  induction n with
  | zero => simp [itmX]
  | succ n ih =>
    have h1 := ih (fun i hi => h i (by omega))
    have h2 := h n (by omega)
    have : (f n).data.toList.length = (f n).size := Array.length_toList
    rw [itmX_succ, List.length_append, line_two]
    simp only [List.length_append, itmW, List.length_cons, List.length_nil]
    omega
theorem ker_id {k : KerV} (h : kerOk k = true) {i : Nat} (hi : i < k.on) : small (k.O i).id := by
  have hp := h
  simp only [kerOk, Bool.and_eq_true] at hp
  obtain ⟨⟨⟨⟨ht, ho⟩, hn⟩, _⟩, _⟩ := hp
  by_cases h0 : i = 0
  · subst h0
    rw [(objsOk_root ho).1]
    exact ⟨by omega, by omega⟩
  · have ha := all_out hn (i - 1) (by omega)
    have e : i - 1 + 1 = i := by omega
    simp only [e] at ha
    have hpos := objsOk_pos ho i hi
    cases hf : findI (fun j => (k.T j).id) k.tn ((k.O i).id / 1000) with
    | none => rw [numAt_none ht hf] at ha; cases ha
    | some t =>
      rw [numAt_some ht hf] at ha
      obtain ⟨t1, t2⟩ := findI_some hf
      have t3 := (thrsOk_out ht).2.2 t t1
      simp only [thrAt, Bool.and_eq_true] at t3
      obtain ⟨s1, s2, _⟩ := thr_small t3.1
      have a1 := inB_iff.1 ha
      have t2' : (k.T t).id = (k.O i).id / 1000 := t2
      have hid : (k.T t).id ≤ 9 := by
        have := t3.1
        simp only [thrOkV, thrOk, Bool.and_eq_true] at this
        exact (inB_iff.1 this.1.1.1.1).2
      exact ⟨by omega, by omega⟩
theorem ker_up {k : KerV} (h : kerOk k = true) {i : Nat} (hi : i < k.on) : small (k.O i).up := by
  by_cases h0 : i = 0
  · subst h0
    rw [(objsOk_root (kerOk_objs h)).2.2]
    exact ⟨by omega, by omega⟩
  · obtain ⟨u, hu⟩ := ups_box h hi h0
    obtain ⟨u1, u2⟩ := findI_some hu
    have u2' : (k.O u).id = (k.O i).up := u2
    rw [← u2']
    exact ker_id h u1
theorem ker_thr {k : KerV} (h : kerOk k = true) {i : Nat} (hi : i < k.tn) : thrOkV (k.T i) = true := by
  simp only [kerOk, Bool.and_eq_true] at h
  have := (thrsOk_out h.1.1.1.1).2.2 i hi
  simp only [thrAt, Bool.and_eq_true] at this
  exact this.1
theorem ker_obj {k : KerV} (h : kerOk k = true) {i : Nat} (hi : i < k.on) : objOk (k.O i) = true := by
  have := (objsOk_out (kerOk_objs h)).2.2.1 i hi
  simp only [objAt, Bool.and_eq_true] at this
  exact this.1
theorem ker_lens {k : KerV} (h : kerOk k = true) : 1 ≤ k.tn ∧ k.tn ≤ 9 ∧ k.on ≤ 271 := by
  have h2 := (objsOk_out (kerOk_objs h)).2.1
  simp only [kerOk, Bool.and_eq_true] at h
  have h1 := thrsOk_out h.1.1.1.1
  exact ⟨h1.1, h1.2.1, h2⟩
theorem thrsX_len {T : Nat → ThrV} {n : Nat} (h : ∀ i, i < n → thrOkV (T i) = true) : (thrsX T n).length ≤ 1000 * n := by
  induction n with
  | zero => simp [thrsX]
  | succ n ih =>
    have h1 := ih (fun i hi => h i (by omega))
    have h2 := thrX_len (h n (by omega))
    rw [thrsX_succ, List.length_append]
    omega
theorem objT_len {o : ObjV} {ks : List Int} (h : objOk o = true) (h1 : small o.id) (h2 : small o.up) (hk : ∀ x ∈ ks, small x) (hn : ks.length ≤ 271) : (objT o ks).length ≤ 4000 := by
  obtain ⟨_, _, _, p4, p5, p6, _⟩ := obj_parts h
  have d1 := objX_len h h1 h2 hk hn
  have d2 := datX_len p4
  have d3 := itmX_len p6
  unfold objT
  simp only [List.length_append]
  omega
theorem objsX_len {k : KerV} (h : kerOk k = true) {n : Nat} (hn : n ≤ k.on) : (objsX k.O n).length ≤ 4000 * n := by
  induction n with
  | zero => simp [objsX]
  | succ n ih =>
    have h1 := ih (by omega)
    have h2 := objT_len (ks := []) (ker_obj h (i := n) (by omega)) (ker_id h (by omega)) (ker_up h (by omega)) (fun x hx => by cases hx) (by simp)
    rw [objsX_succ, List.length_append]
    omega
end Go.Proofs.YtjceaajnemgheaaGreatDoor
