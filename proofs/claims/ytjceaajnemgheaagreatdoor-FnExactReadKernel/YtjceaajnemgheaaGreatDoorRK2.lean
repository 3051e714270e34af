/- Reading a kernel, plainly: its text is read back, strictly and leniently; what is read strictly is its text. -/
import Derived.Test.YtjceaajnemgheaaGreatDoorZ27
namespace Go.Proofs.YtjceaajnemgheaaGreatDoor
open Go

def thrWs (d : TD) : List (List UInt8) := dc d.id :: txt d.b1 d.l1 :: txt d.b2 d.l2 :: dc d.made :: d.own.map dc
def objWs (d : OD) : List (List UInt8) := dc d.id :: dc d.kind :: dc d.up :: txt d.b1 d.l1 :: txt d.b2 d.l2 :: d.own.map dc
def datL (l : List UInt8) : List UInt8 := if l = [] then [] else datW ++ 32 :: (l ++ [10])
def itmL (is : List (List UInt8)) : List UInt8 := (is.map fun i => itmW ++ 32 :: (i ++ [10])).flatten
theorem itmL_nil : itmL [] = [] := rfl
theorem itmL_cons (i : List UInt8) (is : List (List UInt8)) : itmL (i :: is) = itmW ++ 32 :: (i ++ 10 :: itmL is) := by simp [itmL]
def tX (d : TD) : List UInt8 := thrW ++ sep (thrWs d) ++ [10]
def oX (d : OD) : List UInt8 := objW ++ sep (objWs d) ++ 10 :: (datL d.data ++ itmL d.items)
theorem thr_text (d : TD) : thrX d.v = tX d := by
  unfold thrX lineL tX
  rw [List.cons_append, Lib.join_cons]
  show thrW ++ Lib.joinTail [32] ([dc d.id, lb d.b1 (catD d.l1), lb d.b2 (catD d.l2), dc d.made] ++ List.map dc (nums (intD d.own))) ++ [10] = _
  rw [lb_catD, lb_catD, nums_intD]
  rfl
theorem dat_text (l : List UInt8) : datX (bytesOf l) = datL l := by
  unfold datX datL
  rw [empty_size]
  have e : (bytesOf l).size = l.length := by simp [bytesOf, ByteArray.size]
  rw [e]
  by_cases h : l = []
  · simp [h]
  · have : ¬ l.length = 0 := by simpa using h
    simp only [this, h, decide_false, if_false, Bool.false_eq_true]
    rw [line_two, bytesOf_list]
    simp
theorem itm_text (is : List (List UInt8)) : itmX (strD is).f (strD is).n = itmL is := by
  unfold itmX itmL
  have : ((List.range (strD is).n).map fun i => lineL [itmW, ((strD is).f i).data.toList]) = is.map fun i => itmW ++ 32 :: (i ++ [10]) := by
    conv => rhs; rw [← range_getD is []]
    rw [List.map_map]
    refine List.map_congr_left fun i _ => ?_
    show lineL [itmW, (bytesOf (is.getD i [])).data.toList] = itmW ++ 32 :: (is.getD i [] ++ [10])
    rw [line_two, bytesOf_list]
    simp
  rw [this]
theorem obj_text (d : OD) : objT d.v [] = oX d := by
  unfold objT objX lineL oX
  rw [List.cons_append, List.cons_append, Lib.join_cons]
  show (objW ++ Lib.joinTail [32] ([dc d.id, dc d.kind, dc d.up, lb d.b1 (catD d.l1), lb d.b2 (catD d.l2)] ++ List.map dc (nums (intD d.own)) ++ List.map dc []) ++ [10]) ++ datX (bytesOf d.data) ++ itmX (strD d.items).f (strD d.items).n = _
  rw [lb_catD, lb_catD, nums_intD, dat_text, itm_text]
  simp [objWs, sep, List.append_assoc]
def kTL (ts : List TD) (os : List OD) : List UInt8 := (ts.map tX).flatten ++ (os.map oX).flatten
theorem kText_kerD {ts : List TD} {os : List OD} (h : kerOk (kerD ts os) = true) : (kText (kerD ts os)).data.toList = kTL ts os := by
  unfold kText
  rw [if_pos h]
  have e1 : thrsX (kerD ts os).T (kerD ts os).tn = (ts.map tX).flatten := by
    unfold thrsX
    conv => rhs; rw [← range_getD ts zT]
    rw [List.map_map]
    refine congrArg _ (List.map_congr_left fun i _ => thr_text _)
  have e2 : objsX (kerD ts os).O (kerD ts os).on = (os.map oX).flatten := by
    unfold objsX
    conv => rhs; rw [← range_getD os zO]
    rw [List.map_map]
    refine congrArg _ (List.map_congr_left fun i _ => obj_text _)
  rw [e1, e2]
  rfl
theorem kText_not {ts : List TD} {os : List OD} (h : ¬ kerOk (kerD ts os) = true) : (kText (kerD ts os)).data.toList = [] := by
  unfold kText
  rw [if_neg h]
structure GT (d : TD) : Prop where
  id : small d.id
  made : small d.made
  l1 : labOk d.b1 d.l1.length (fstAt d.l1) (sndAt d.l1) = true
  l2 : labOk d.b2 d.l2.length (fstAt d.l2) (sndAt d.l2) = true
  own : ∀ x ∈ d.own, small x
structure GO (d : OD) : Prop where
  id : small d.id
  kind : small d.kind
  up : small d.up
  l1 : labOk d.b1 d.l1.length (fstAt d.l1) (sndAt d.l1) = true
  l2 : labOk d.b2 d.l2.length (fstAt d.l2) (sndAt d.l2) = true
  own : ∀ x ∈ d.own, small x
  data : no 10 d.data
  items : ∀ i ∈ d.items, no 10 i
theorem plain_no {l : List UInt8} (h : plainB (bytesOf l) 40 = true) : no 10 l := fun b hb e => by
  simp only [plainB, Bool.and_eq_true] at h
  have h1 := h.1
  rw [bytesOf_list, List.all_eq_true] at h1
  have := h1 b hb
  subst e
  revert this
  decide
theorem getD_mem {α : Type} {l : List α} {x d : α} (h : x ∈ l) : ∃ i, i < l.length ∧ l.getD i d = x := by
  obtain ⟨i, hi, e⟩ := List.getElem_of_mem h
  exact ⟨i, hi, by simp [List.getElem?_eq_getElem hi, e]⟩
theorem own_intD {l : List Int} (h : ownOk (intD l).n (intD l).h = true) : ∀ x ∈ l, small x := by
  have := (own_small h).2
  rwa [nums_intD] at this
theorem ker_GT {ts : List TD} {os : List OD} (h : kerOk (kerD ts os) = true) : ∀ d ∈ ts, GT d := fun d hd => by
  obtain ⟨i, hi, rfl⟩ := getD_mem (d := zT) hd
  obtain ⟨h1, h2, h3, h4, h5⟩ := thr_small (ker_thr h (i := i) hi)
  exact ⟨h1, h2, h3, h4, own_intD h5⟩
theorem ker_GO {ts : List TD} {os : List OD} (h : kerOk (kerD ts os) = true) : ∀ d ∈ os, GO d := fun d hd => by
  obtain ⟨i, hi, rfl⟩ := getD_mem (d := zO) hd
  have ho := ker_obj h (i := i) hi
  obtain ⟨h1, h2, h3, _, _, _, h7⟩ := obj_parts ho
  simp only [objOk, Bool.and_eq_true] at ho
  obtain ⟨⟨⟨⟨⟨_, _⟩, _⟩, p4⟩, p5⟩, _⟩ := ho
  obtain ⟨_, i2⟩ := itemsB_out p5
  refine ⟨ker_id h hi, h7, ker_up h hi, h1, h2, own_intD h3, plain_no p4, fun x hx => ?_⟩
  obtain ⟨j, hj, e⟩ := getD_mem (d := []) hx
  have := i2 j hj
  rw [← e]
  exact plain_no this
theorem dc_no {c : UInt8} (h : digitB c = false) (x : Int) : no c (dc x) := digit_not h _
theorem dc_ok {x : Int} (h : small x) : okD (dc x) = true ∧ numL (dc x) = x := by
  have e : okD (dc x) = true := okD_dec (by have := h.1; have := h.2; omega)
  refine ⟨e, ?_⟩
  unfold numL
  rw [if_pos e]
  show ((valL (decL x.toNat) : Nat) : Int) = x
  rw [val_dec]
  have := h.1
  omega
theorem dc_num {x : Int} (h : small x) : numM (dc x) = x := by
  unfold numM
  rw [if_pos (dc_ok h).1, (dc_ok h).2]
theorem thrWs_no {c : UInt8} (h0 : digitB c = false) (h1 : c ≠ 44) (h2 : c ≠ 58) (d : TD) : ∀ w ∈ thrWs d, no c w := fun w hw => by
  simp only [thrWs, List.mem_cons, List.mem_map] at hw
  rcases hw with rfl | rfl | rfl | rfl | ⟨x, _, rfl⟩
  · exact dc_no h0 _
  · exact txt_no h0 h1 h2 _ _
  · exact txt_no h0 h1 h2 _ _
  · exact dc_no h0 _
  · exact dc_no h0 _
theorem objWs_no {c : UInt8} (h0 : digitB c = false) (h1 : c ≠ 44) (h2 : c ≠ 58) (d : OD) : ∀ w ∈ objWs d, no c w := fun w hw => by
  simp only [objWs, List.mem_cons, List.mem_map] at hw
  rcases hw with rfl | rfl | rfl | rfl | rfl | ⟨x, _, rfl⟩
  · exact dc_no h0 _
  · exact dc_no h0 _
  · exact dc_no h0 _
  · exact txt_no h0 h1 h2 _ _
  · exact txt_no h0 h1 h2 _ _
  · exact dc_no h0 _
theorem own_num {l : List Int} (h : ∀ x ∈ l, small x) : (l.map dc).map numM = l ∧ (l.map dc).all okD = true := by
  constructor
  · rw [List.map_map]
    conv => rhs; rw [← List.map_id l]
    exact List.map_congr_left fun x hx => dc_num (h x hx)
  · rw [List.all_eq_true]
    intro w hw
    obtain ⟨x, hx, rfl⟩ := List.mem_map.1 hw
    exact (dc_ok (h x hx)).1
theorem thrM_good {d : TD} (h : GT d) : thrM (thrWs d) = d ∧ thrS (thrWs d) = some d := by
  have e : thrM (thrWs d) = d := by
    simp [thrM, thrWs, dc_num h.id, dc_num h.made, read_txt h.l1, read_txt h.l2, (own_num h.own).1]
  refine ⟨e, ?_⟩
  unfold thrS
  rw [if_pos, e]
  have o := (own_num h.own).2
  simp [thrWs, (dc_ok h.id).1, (dc_ok h.made).1, read_txt h.l1, read_txt h.l2]
  simpa using o
theorem objM_good {d : OD} (h : GO d) : objM (objWs d) = { d with data := [], items := [] } ∧ objS (objWs d) = some { d with data := [], items := [] } := by
  have e : objM (objWs d) = { d with data := [], items := [] } := by
    simp [objM, objWs, dc_num h.id, dc_num h.kind, dc_num h.up, read_txt h.l1, read_txt h.l2, (own_num h.own).1]
  refine ⟨e, ?_⟩
  unfold objS
  rw [if_pos, e]
  have o := (own_num h.own).2
  simp [objWs, (dc_ok h.id).1, (dc_ok h.kind).1, (dc_ok h.up).1, read_txt h.l1, read_txt h.l2]
  simpa using o
theorem num_back {w : List UInt8} (h : okD w = true) : dc (numM w) = w := by
  unfold numM numL dc
  rw [if_pos h, if_pos h]
  simp [dec_ok h]
theorem lab_back {w : List UInt8} (h : (readL w).2.2 = true) : txt (readL w).1 (readL w).2.1 = w := (read_back (S := w) (b := (readL w).1) (l := (readL w).2.1) (by rw [← h])).2
theorem nums_back {l : List (List UInt8)} (h : l.all okD = true) : (l.map numM).map dc = l := by
  rw [List.map_map]
  conv => rhs; rw [← List.map_id l]
  exact List.map_congr_left fun x hx => num_back (List.all_eq_true.1 h x hx)
theorem thrS_back {ws : List (List UInt8)} {d : TD} (h : thrS ws = some d) : ws = thrWs d := by
  unfold thrS at h
  split at h
  · rename_i hh
    obtain ⟨n, h0, h1, h2, h3, h4⟩ := hh
    have := Option.some.inj h
    subst this
    match ws, n with
    | w0 :: w1 :: w2 :: w3 :: r, _ =>
      simp only [List.getD_cons_zero, List.getD_cons_succ, List.drop_succ_cons, List.drop_zero] at h0 h1 h2 h3 h4
      simp only [thrWs, thrM, List.getD_cons_zero, List.getD_cons_succ, List.drop_succ_cons, List.drop_zero]
      rw [num_back h0, lab_back h1, lab_back h2, num_back h3, nums_back h4]
  · cases h
theorem objS_back {ws : List (List UInt8)} {d : OD} (h : objS ws = some d) : ws = objWs d ∧ d.data = [] ∧ d.items = [] := by
  unfold objS at h
  split at h
  · rename_i hh
    obtain ⟨n, h0, h1, h2, h3, h4, h5⟩ := hh
    have := Option.some.inj h
    subst this
    refine ⟨?_, rfl, rfl⟩
    match ws, n with
    | w0 :: w1 :: w2 :: w3 :: w4 :: r, _ =>
      simp only [List.getD_cons_zero, List.getD_cons_succ, List.drop_succ_cons, List.drop_zero] at h0 h1 h2 h3 h4 h5
      simp only [objWs, objM, List.getD_cons_zero, List.getD_cons_succ, List.drop_succ_cons, List.drop_zero]
      rw [num_back h0, num_back h1, num_back h2, lab_back h3, lab_back h4, nums_back h5]
  · cases h
theorem takes_yes (W Q : List UInt8) : takesL W (W ++ 32 :: Q) = some Q := by
  unfold takesL
  have e : W ++ 32 :: Q = (W ++ [32]) ++ Q := by simp
  rw [if_pos (by rw [e, List.isPrefixOf_iff_prefix]; exact List.prefix_append _ _), e, List.drop_left' (by simp)]
theorem takes_back {W R Q : List UInt8} (h : takesL W R = some Q) : R = W ++ 32 :: Q := by
  unfold takesL at h
  split at h
  · rename_i hp
    rw [List.isPrefixOf_iff_prefix] at hp
    obtain ⟨t, rfl⟩ := hp
    have := Option.some.inj h
    rw [List.drop_left' (by simp)] at this
    subst this
    simp
  · cases h
theorem takes_len {W R Q : List UInt8} (h : takesL W R = some Q) : Q.length < R.length := by
  rw [takes_back h]
  simp
  omega
theorem cut10_len {Q : List UInt8} : (cutL 10 Q).2.1.length ≤ Q.length := cutL_len2 10 Q
theorem line_sep {P : List UInt8} {ws : List (List UInt8)} (h : wordsL P = ws) : 32 :: P = sep ws := by
  obtain ⟨w, r, h1, h2⟩ := sep_words P
  rw [h] at h1
  rw [h1, sep_cons, ← h2]
theorem cut_join {c : UInt8} {Q : List UInt8} (h : (cutL c Q).2.2 = true) : Q = (cutL c Q).1 ++ c :: (cutL c Q).2.1 := by
  have := cutL_join c Q
  rw [if_pos h] at this
  exact this
theorem sep_no {c : UInt8} (hc : c ≠ 32) {ws : List (List UInt8)} (h : ∀ w ∈ ws, no c w) : no c (sep ws) := by
  induction ws with
  | nil => intro b hb; cases hb
  | cons w ws ih =>
    rw [sep_cons]
    intro b hb
    rcases List.mem_cons.1 hb with rfl | hb
    · exact fun e => hc e.symm
    · rcases List.mem_append.1 hb with hb | hb
      · exact h w (List.mem_cons_self ..) b hb
      · exact ih (fun x hx => h x (List.mem_cons_of_mem _ hx)) b hb
theorem tail_of {w : List UInt8} {ws : List (List UInt8)} {c : UInt8} (hc : c ≠ 32) (h : ∀ x ∈ w :: ws, no c x) : no c (w ++ sep ws) := fun b hb => by
  have := sep_no hc h
  rw [sep_cons] at this
  exact this b (List.mem_cons_of_mem _ hb)

theorem strT_text : ∀ (more : List TD) (n : Nat) (ts : List TD) (R : List UInt8), (∀ d ∈ more, GT d) → more.length < n → takesL thrW R = none → strT n ts ((more.map tX).flatten ++ R) = some (ts ++ more, R)
  | [], n, ts, R, _, hn, hR => by
    obtain ⟨m, rfl⟩ : ∃ m, n = m + 1 := ⟨n - 1, by simp at hn; omega⟩
    simp [strT, hR]
  | d :: more, n, ts, R, hg, hn, hR => by
    obtain ⟨m, rfl⟩ : ∃ m, n = m + 1 := ⟨n - 1, by simp at hn; omega⟩
    have gd := hg d (List.mem_cons_self ..)
    have e : ((d :: more).map tX).flatten ++ R = thrW ++ 32 :: ((dc d.id ++ sep (thrWs d).tail) ++ 10 :: ((more.map tX).flatten ++ R)) := by
      rw [List.map_cons, List.flatten_cons]
      show thrW ++ sep (dc d.id :: (thrWs d).tail) ++ [10] ++ _ ++ R = _
      rw [sep_cons]
      simp
    have n32 : ∀ x ∈ dc d.id :: (thrWs d).tail, no 32 x := thrWs_no (by decide) (by decide) (by decide) d
    have n10 : ∀ x ∈ dc d.id :: (thrWs d).tail, no 10 x := thrWs_no (by decide) (by decide) (by decide) d
    rw [e]
    unfold strT
    rw [takes_yes]
    simp only
    rw [cutL_at (tail_of (by decide) n10)]
    simp only [if_true]
    rw [words_sep n32]
    show (match thrS (thrWs d) with | none => none | some t => strT m (ts ++ [t]) ((more.map tX).flatten ++ R)) = _
    rw [(thrM_good gd).2]
    simp only
    rw [strT_text more m (ts ++ [d]) R (fun x hx => hg x (List.mem_cons_of_mem _ hx)) (by simp at hn; omega) hR]
    simp
theorem strT_back : ∀ (n : Nat) (ts : List TD) (R : List UInt8) (p : List TD × List UInt8), strT n ts R = some p → ∃ more, p.1 = ts ++ more ∧ R = (more.map tX).flatten ++ p.2
  | 0, _, _, _, h => by simp [strT] at h
  | n + 1, ts, R, p, h => by
    unfold strT at h
    split at h
    · have := Option.some.inj h
      subst this
      exact ⟨[], by simp, by simp⟩
    · rename_i Q hQ
      split at h
      · rename_i hf
        split at h
        · cases h
        · rename_i t ht
          obtain ⟨more, h1, h2⟩ := strT_back n _ _ p h
          refine ⟨t :: more, by rw [h1]; simp, ?_⟩
          rw [takes_back hQ, cut_join hf, h2, List.map_cons, List.flatten_cons]
          have := line_sep (thrS_back ht)
          simp only [tX, List.append_assoc, List.cons_append, List.nil_append]
          rw [← this]
          simp
      · cases h
theorem strI_text : ∀ (is : List (List UInt8)) (n : Nat) (acc : List (List UInt8)) (R : List UInt8), (∀ i ∈ is, no 10 i) → is.length < n → takesL itmW R = none → strI n acc (itmL is ++ R) = some (acc ++ is, R)
  | [], n, acc, R, _, hn, hR => by
    obtain ⟨m, rfl⟩ : ∃ m, n = m + 1 := ⟨n - 1, by simp at hn; omega⟩
    simp [strI, hR, itmL_nil]
  | i :: is, n, acc, R, hg, hn, hR => by
    obtain ⟨m, rfl⟩ : ∃ m, n = m + 1 := ⟨n - 1, by simp at hn; omega⟩
    have e : itmL (i :: is) ++ R = itmW ++ 32 :: (i ++ 10 :: (itmL is ++ R)) := by rw [itmL_cons]; simp
    rw [e]
    unfold strI
    rw [takes_yes]
    simp only
    rw [cutL_at (hg i (List.mem_cons_self ..))]
    simp only [if_true]
    rw [strI_text is m (acc ++ [i]) R (fun x hx => hg x (List.mem_cons_of_mem _ hx)) (by simp at hn; omega) hR]
    simp
theorem strI_back : ∀ (n : Nat) (acc : List (List UInt8)) (R : List UInt8) (p : List (List UInt8) × List UInt8), strI n acc R = some p → ∃ is, p.1 = acc ++ is ∧ R = itmL is ++ p.2
  | 0, _, _, _, h => by simp [strI] at h
  | n + 1, acc, R, p, h => by
    unfold strI at h
    split at h
    · have := Option.some.inj h
      subst this
      exact ⟨[], by simp, by simp [itmL_nil]⟩
    · rename_i Q hQ
      split at h
      · rename_i hf
        obtain ⟨is, h1, h2⟩ := strI_back n _ _ p h
        refine ⟨(cutL 10 Q).1 :: is, by rw [h1]; simp, ?_⟩
        rw [takes_back hQ, itmL_cons]
        conv => lhs; rw [cut_join hf, h2]
        simp
      · cases h
theorem strDa_text {l R : List UInt8} (h : no 10 l) (hR : takesL datW R = none) : strDa (datL l ++ R) = some (l, R) := by
  unfold strDa datL
  by_cases e : l = []
  · subst e
    simp [hR]
  · rw [if_neg e]
    have e2 : datW ++ 32 :: (l ++ [10]) ++ R = datW ++ 32 :: (l ++ 10 :: R) := by simp
    rw [e2, takes_yes]
    simp only
    rw [cutL_at h]
    simp [e]
theorem strDa_back {R : List UInt8} {p : List UInt8 × List UInt8} (h : strDa R = some p) : R = datL p.1 ++ p.2 := by
  unfold strDa at h
  split at h
  · have := Option.some.inj h
    subst this
    simp [datL]
  · rename_i Q hQ
    split at h
    · rename_i hf
      have := Option.some.inj h
      subst this
      unfold datL
      rw [if_neg hf.2, takes_back hQ]
      conv => lhs; rw [cut_join hf.1]
      simp
    · cases h
theorem itmL_len (is : List (List UInt8)) : is.length ≤ (itmL is).length := by
  induction is with
  | nil => simp
  | cons i is ih =>
    rw [itmL_cons]
    simp
    omega
structure Ends (R : List UInt8) : Prop where
  t : takesL thrW R = none
  d : takesL datW R = none
  i : takesL itmW R = none
theorem Ends.nil : Ends [] := ⟨by simp [takesL, thrW], by simp [takesL, datW], by simp [takesL, itmW]⟩
theorem Ends.obj (Q : List UInt8) : Ends (objW ++ Q) := ⟨by simp [takesL, thrW, objW], by simp [takesL, datW, objW], by simp [takesL, itmW, objW]⟩
theorem takes_itm (is : List (List UInt8)) {R : List UInt8} (h : Ends R) : takesL datW (itmL is ++ R) = none := by
  cases is with
  | nil => exact h.d
  | cons i is => rw [itmL_cons]; simp [takesL, itmW, datW]
theorem strOb_text {d : OD} {R : List UInt8} (h : GO d) (hR : Ends R) : strOb (oX d ++ R) = some (d, R) := by
  have e : oX d ++ R = objW ++ 32 :: ((dc d.id ++ sep (objWs d).tail) ++ 10 :: (datL d.data ++ (itmL d.items ++ R))) := by
    show objW ++ sep (dc d.id :: (objWs d).tail) ++ 10 :: (datL d.data ++ itmL d.items) ++ R = _
    rw [sep_cons]
    simp
  have n32 : ∀ x ∈ dc d.id :: (objWs d).tail, no 32 x := objWs_no (by decide) (by decide) (by decide) d
  have n10 : ∀ x ∈ dc d.id :: (objWs d).tail, no 10 x := objWs_no (by decide) (by decide) (by decide) d
  rw [e]
  unfold strOb
  rw [takes_yes]
  simp only
  rw [cutL_at (tail_of (by decide) n10)]
  simp only [if_true]
  rw [words_sep n32]
  show (match objS (objWs d) with | none => none | some o => match strDa (datL d.data ++ (itmL d.items ++ R)) with | none => none | some dd => match strI (dd.2.length + 1) [] dd.2 with | none => none | some i => some ({ o with data := dd.1, items := i.1 }, i.2)) = _
  rw [(objM_good h).2, strDa_text h.data (takes_itm d.items hR)]
  simp only
  rw [strI_text d.items _ [] R h.items (by have := itmL_len d.items; simp; omega) hR.i]
  simp
theorem strOb_back {R : List UInt8} {p : OD × List UInt8} (h : strOb R = some p) : R = oX p.1 ++ p.2 := by
  unfold strOb at h
  split at h
  · cases h
  · rename_i Q hQ
    split at h
    · rename_i hf
      split at h
      · cases h
      · rename_i o ho
        split at h
        · cases h
        · rename_i dd hd
          split at h
          · cases h
          · rename_i ii hi
            have := Option.some.inj h
            subst this
            obtain ⟨is, h1, h2⟩ := strI_back _ _ _ ii hi
            obtain ⟨hw, _, _⟩ := objS_back ho
            have s := line_sep hw
            have e1 := strDa_back hd
            have e3 : ii.1 = is := by simpa using h1
            rw [takes_back hQ]
            conv => lhs; rw [cut_join hf, e1, h2]
            show _ = objW ++ sep (objWs o) ++ 10 :: (datL dd.1 ++ itmL ii.1) ++ ii.2
            rw [← s, e3]
            simp
    · cases h
theorem objs_end (os : List OD) : Ends (os.map oX).flatten := by
  cases os with
  | nil => exact Ends.nil
  | cons o os =>
    have : ((o :: os).map oX).flatten = objW ++ (sep (objWs o) ++ 10 :: (datL o.data ++ itmL o.items) ++ (os.map oX).flatten) := by simp [oX]
    rw [this]
    exact Ends.obj _
theorem oX_ne (o : OD) (R : List UInt8) : oX o ++ R ≠ [] := by simp [oX, objW]
theorem strO_text : ∀ (os : List OD) (n : Nat) (acc : List OD), (∀ d ∈ os, GO d) → os.length < n → strO n acc (os.map oX).flatten = some (acc ++ os)
  | [], n, acc, _, hn => by
    obtain ⟨m, rfl⟩ : ∃ m, n = m + 1 := ⟨n - 1, by simp at hn; omega⟩
    simp [strO]
  | d :: os, n, acc, hg, hn => by
    obtain ⟨m, rfl⟩ : ∃ m, n = m + 1 := ⟨n - 1, by simp at hn; omega⟩
    rw [List.map_cons, List.flatten_cons]
    unfold strO
    rw [if_neg (oX_ne d _), strOb_text (hg d (List.mem_cons_self ..)) (objs_end os)]
    simp only
    rw [strO_text os m (acc ++ [d]) (fun x hx => hg x (List.mem_cons_of_mem _ hx)) (by simp at hn; omega)]
    simp
theorem strO_back : ∀ (n : Nat) (acc : List OD) (R : List UInt8) (os : List OD), strO n acc R = some os → ∃ more, os = acc ++ more ∧ R = (more.map oX).flatten
  | 0, _, _, _, h => by simp [strO] at h
  | n + 1, acc, R, os, h => by
    unfold strO at h
    split at h
    · rename_i e
      have := Option.some.inj h
      subst this
      exact ⟨[], by simp, by simp [e]⟩
    · split at h
      · cases h
      · rename_i p hp
        obtain ⟨more, h1, h2⟩ := strO_back n _ _ os h
        refine ⟨p.1 :: more, by rw [h1]; simp, ?_⟩
        rw [strOb_back hp, h2]
        simp
theorem flat_ge {α : Type} {f : α → List UInt8} (hf : ∀ x, 1 ≤ (f x).length) (l : List α) : l.length ≤ (l.map f).flatten.length := by
  induction l with
  | nil => simp
  | cons x l ih =>
    have := hf x
    simp only [List.map_cons, List.flatten_cons, List.length_append, List.length_cons]
    omega
theorem tX_len (d : TD) : 1 ≤ (tX d).length := by simp [tX]; omega
theorem oX_len (d : OD) : 1 ≤ (oX d).length := by simp [oX]; omega
theorem strK_text {ts : List TD} {os : List OD} (h : kerOk (kerD ts os) = true) : strK (kTL ts os) = some (ts, os) := by
  unfold strK kTL
  rw [strT_text ts _ [] _ (ker_GT h) (by have := flat_ge tX_len ts; rw [List.length_append]; omega) (objs_end os).t]
  simp only [List.nil_append]
  rw [strO_text os _ [] (ker_GO h) (by have := flat_ge oX_len os; omega)]
  simp [h]
theorem strK_back {L : List UInt8} {p : List TD × List OD} (h : strK L = some p) : kerOk (kerD p.1 p.2) = true ∧ L = kTL p.1 p.2 := by
  unfold strK at h
  split at h
  · cases h
  · rename_i q hq
    split at h
    · cases h
    · rename_i os ho
      split at h
      · rename_i hk
        have := Option.some.inj h
        subst this
        refine ⟨hk, ?_⟩
        obtain ⟨m1, h1, h2⟩ := strT_back _ _ _ q hq
        obtain ⟨m2, h3, h4⟩ := strO_back _ _ _ os ho
        have e1 : q.1 = m1 := by simpa using h1
        have e2 : os = m2 := by simpa using h3
        rw [h2, h4, kTL, e1, e2]
      · cases h
theorem readM_fuel : ∀ (n m : Nat) (ts : List TD) (os : List OD) (R : List UInt8), R.length < n → R.length < m → readM n ts os R = readM m ts os R
  | 0, _, _, _, _, h, _ => by omega
  | _, 0, _, _, _, _, h => by omega
  | n + 1, m + 1, ts, os, R, h1, h2 => by
    unfold readM
    by_cases e : R = []
    · rw [if_pos e, if_pos e]
    · rw [if_neg e, if_neg e]
      by_cases f : (cutL 10 R).2.2 = true
      · rw [if_pos f, if_pos f]
        cases hl : lineM ts os (cutL 10 R).1 with
        | none => rfl
        | some p =>
          have := cutL_more f
          exact readM_fuel n m p.1 p.2 _ (by omega) (by omega)
      · rw [if_neg f, if_neg f]
def readF (ts : List TD) (os : List OD) (R : List UInt8) : Option (List TD × List OD) := readM (R.length + 1) ts os R
theorem readF_nil (ts : List TD) (os : List OD) : readF ts os [] = some (ts, os) := by simp [readF, readM]
theorem readF_line {ts ts' : List TD} {os os' : List OD} {l R : List UInt8} (h : no 10 l) (hl : lineM ts os l = some (ts', os')) : readF ts os (l ++ 10 :: R) = readF ts' os' R := by
  show readM ((l ++ 10 :: R).length + 1) ts os _ = readM (R.length + 1) ts' os' R
  rw [readM, if_neg (by simp), cutL_at h]
  simp only [if_true]
  rw [hl]
  simp only
  exact readM_fuel (l ++ 10 :: R).length (R.length + 1) ts' os' R (by rw [List.length_append, List.length_cons]; omega) (Nat.lt_succ_self _)
theorem word_no {W : List UInt8} (h : W = thrW ∨ W = objW ∨ W = datW ∨ W = itmW) : no 32 W ∧ no 10 W := by
  rcases h with rfl | rfl | rfl | rfl <;> (constructor <;> (unfold no; decide))
theorem cut_line {W T : List UInt8} (h : no 32 W) : cutL 32 (W ++ 32 :: T) = (W, T, true) := cutL_at h T
theorem no_app {c : UInt8} {a b : List UInt8} (h1 : no c a) (h2 : no c b) : no c (a ++ b) := fun x hx => (List.mem_append.1 hx).elim (h1 x) (h2 x)
theorem no_32 {b : List UInt8} (h : no 10 b) : no 10 (32 :: b) := fun x hx => (List.mem_cons.1 hx).elim (fun e => by subst e; decide) (h x)
theorem readF_thr {ts : List TD} {os : List OD} {d : TD} (h : GT d) (R : List UInt8) : readF ts os (tX d ++ R) = readF (ts ++ [d]) os R := by
  have n32 : ∀ x ∈ dc d.id :: (thrWs d).tail, no 32 x := thrWs_no (by decide) (by decide) (by decide) d
  have n10 : ∀ x ∈ dc d.id :: (thrWs d).tail, no 10 x := thrWs_no (by decide) (by decide) (by decide) d
  have e : tX d ++ R = (thrW ++ 32 :: (dc d.id ++ sep (thrWs d).tail)) ++ 10 :: R := by
    show thrW ++ sep (dc d.id :: (thrWs d).tail) ++ [10] ++ R = _
    rw [sep_cons]
    simp
  rw [e]
  refine readF_line (no_app (word_no (.inl rfl)).2 (no_32 (tail_of (by decide) n10))) ?_
  unfold lineM
  rw [cut_line (word_no (.inl rfl)).1]
  simp only
  rw [words_sep n32, if_pos ⟨trivial, by show 4 ≤ (thrWs d).length; simp [thrWs]⟩]
  show some (ts ++ [thrM (thrWs d)], os) = _
  rw [(thrM_good h).1]
theorem lastO_snoc (os : List OD) (o : OD) (f : OD → OD) : lastO (os ++ [o]) f = os ++ [f o] := by simp [lastO]
theorem readF_dat {ts : List TD} {os : List OD} {o : OD} {l : List UInt8} (h : no 10 l) (ho : o.data = []) (R : List UInt8) : readF ts (os ++ [o]) (datL l ++ R) = readF ts (os ++ [{ o with data := l }]) R := by
  unfold datL
  by_cases e : l = []
  · subst e
    rw [if_pos rfl]
    have : ({ o with data := [] } : OD) = o := by rw [← ho]
    rw [this]
    rfl
  · rw [if_neg e]
    have e : datW ++ 32 :: (l ++ [10]) ++ R = (datW ++ 32 :: l) ++ 10 :: R := by simp
    rw [e]
    refine readF_line (no_app (word_no (.inr (.inr (.inl rfl)))).2 (no_32 h)) ?_
    unfold lineM
    rw [cut_line (word_no (.inr (.inr (.inl rfl)))).1]
    simp only
    rw [if_neg (fun hh => absurd hh.1 (by decide)), if_neg (fun hh => absurd hh.1 (by decide)), if_pos ⟨trivial, by simp⟩, lastO_snoc]
theorem readF_itm {ts : List TD} {os : List OD} : ∀ (is : List (List UInt8)) (o : OD) (R : List UInt8), (∀ i ∈ is, no 10 i) → readF ts (os ++ [o]) (itmL is ++ R) = readF ts (os ++ [{ o with items := o.items ++ is }]) R
  | [], o, R, _ => by simp [itmL_nil]
  | i :: is, o, R, h => by
    have hi := h i (List.mem_cons_self ..)
    have e : itmL (i :: is) ++ R = (itmW ++ 32 :: i) ++ 10 :: (itmL is ++ R) := by rw [itmL_cons]; simp
    rw [e, readF_line (ts' := ts) (os' := os ++ [{ o with items := o.items ++ [i] }]) (no_app (word_no (.inr (.inr (.inr rfl)))).2 (no_32 hi)), readF_itm is _ R (fun x hx => h x (List.mem_cons_of_mem _ hx))]
    · simp
    · unfold lineM
      rw [cut_line (word_no (.inr (.inr (.inr rfl)))).1]
      simp only
      rw [if_neg (fun hh => absurd hh.1 (by decide)), if_neg (fun hh => absurd hh.1 (by decide)), if_neg (fun hh => absurd hh.1 (by decide)), if_pos ⟨trivial, by simp⟩, lastO_snoc]
theorem readF_obj {ts : List TD} {os : List OD} {d : OD} (h : GO d) (R : List UInt8) : readF ts os (oX d ++ R) = readF ts (os ++ [d]) R := by
  have n32 : ∀ x ∈ dc d.id :: (objWs d).tail, no 32 x := objWs_no (by decide) (by decide) (by decide) d
  have n10 : ∀ x ∈ dc d.id :: (objWs d).tail, no 10 x := objWs_no (by decide) (by decide) (by decide) d
  have e : oX d ++ R = (objW ++ 32 :: (dc d.id ++ sep (objWs d).tail)) ++ 10 :: (datL d.data ++ (itmL d.items ++ R)) := by
    show objW ++ sep (dc d.id :: (objWs d).tail) ++ 10 :: (datL d.data ++ itmL d.items) ++ R = _
    rw [sep_cons]
    simp
  rw [e, readF_line (ts' := ts) (os' := os ++ [{ d with data := [], items := [] }]) (no_app (word_no (.inr (.inl rfl))).2 (no_32 (tail_of (by decide) n10))), readF_dat h.data rfl, readF_itm d.items _ R h.items]
  · simp
  · unfold lineM
    rw [cut_line (word_no (.inr (.inl rfl))).1]
    simp only
    rw [words_sep n32, if_neg (fun hh => absurd hh.1 (by decide)), if_pos ⟨trivial, by show 5 ≤ (objWs d).length; simp [objWs]⟩]
    show some (ts, os ++ [objM (objWs d)]) = _
    rw [(objM_good h).1]
theorem readF_thrs {os : List OD} : ∀ (more ts : List TD) (R : List UInt8), (∀ d ∈ more, GT d) → readF ts os ((more.map tX).flatten ++ R) = readF (ts ++ more) os R
  | [], ts, R, _ => by simp
  | d :: more, ts, R, h => by
    rw [List.map_cons, List.flatten_cons, List.append_assoc, readF_thr (h d (List.mem_cons_self ..)), readF_thrs more _ R (fun x hx => h x (List.mem_cons_of_mem _ hx))]
    simp
theorem readF_objs {ts : List TD} : ∀ (more os : List OD), (∀ d ∈ more, GO d) → readF ts os (more.map oX).flatten = some (ts, os ++ more)
  | [], os, _ => by simp [readF_nil]
  | d :: more, os, h => by
    rw [List.map_cons, List.flatten_cons, readF_obj (h d (List.mem_cons_self ..)), readF_objs more _ (fun x hx => h x (List.mem_cons_of_mem _ hx))]
    simp
theorem readF_text {ts : List TD} {os : List OD} (h : kerOk (kerD ts os) = true) : readF [] [] (kTL ts os) = some (ts, os) := by
  unfold kTL
  rw [readF_thrs ts [] _ (ker_GT h), readF_objs os [] (ker_GO h)]
  simp
def specK (L : List UInt8) : Option (List TD × List OD) := match readF [] [] L with
  | none => none
  | some p => if L ≠ [] ∧ (kText (kerD p.1 p.2)).data.toList = L then some p else none
theorem kTL_ne {ts : List TD} {os : List OD} (h : kerOk (kerD ts os) = true) : kTL ts os ≠ [] := fun e => by
  have h1 : 1 ≤ ts.length := (ker_lens h).1
  have h2 := flat_ge tX_len ts
  have := congrArg List.length e
  unfold kTL at this
  rw [List.length_append] at this
  simp only [List.length_nil] at this
  omega
theorem spec_str (L : List UInt8) : specK L = strK L := by
  unfold specK
  cases e : strK L with
  | some p =>
    obtain ⟨h1, h2⟩ := strK_back e
    rw [h2, readF_text h1]
    simp only
    rw [if_pos ⟨kTL_ne h1, kText_kerD h1⟩]
  | none =>
    split
    · rfl
    · rename_i p hp
      split
      · rename_i hh
        by_cases hk : kerOk (kerD p.1 p.2) = true
        · rw [kText_kerD hk] at hh
          rw [← hh.2, strK_text hk] at e
          cases e
        · rw [kText_not hk] at hh
          exact absurd hh.2.symm hh.1
      · rfl
end Go.Proofs.YtjceaajnemgheaaGreatDoor
