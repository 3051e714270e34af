/- l2Put of the model: a rising list with one more. -/
import Derived.Test.YtkoinmddcnnipaaZ5
import Derived.Test.YtkoinmddcnnipaaNC6
import Derived.Test.YtkoinmddcnnipaaZ0
import Derived.Lib.ConvBytes
import Derived.Deep.QuietTactic
import Derived.BigQuiet
import Derived.WalkSmall
import Derived.Test.YtkoinmddcnnipaaZ4
import Derived.Laws.IdiomStrings
namespace Go.Proofs.Ytkoinmddcnnipaa
open Go.RowKit Go.Deep Go.Maps
def putAt (L : List Int) (x : Int) : Nat := L.findIdx (fun y => !decide (y < x))
def putL (L : List Int) (x : Int) : List Int := if L[putAt L x]? = some x then L else L.take (putAt L x) ++ [x] ++ L.drop (putAt L x)

theorem putAt_eq {L : List Int} {x : Int} {k : Nat} (hk : k ≤ L.length) (h1 : ∀ j, j < k → nthI L j < x) (h2 : k = L.length ∨ ¬ nthI L k < x) : putAt L x = k := by
  unfold putAt
  by_cases e : k < L.length
  · rw [List.findIdx_eq e]
    have h3 : ¬ nthI L k < x := by
      rcases h2 with h2 | h2
      · omega
      · exact h2
    refine ⟨?_, fun j hj => ?_⟩
    · simp [nthI, e] at h3; simpa using h3
    · have := h1 j hj
      have hj' : j < L.length := by omega
      simp [nthI, hj'] at this
      simpa using this
  · have ek : k = L.length := by omega
    subst ek
    rw [List.findIdx_eq_length]
    intro y hy
    obtain ⟨j, hj, rfl⟩ := List.getElem_of_mem hy
    have := h1 j hj
    simp [nthI, hj] at this
    simpa using this

set_option maxRecDepth 100000 in
set_option maxHeartbeats 2000000 in
theorem l2Put_any (A : Addr) (cap : Nat) (L : List Int) (x : Int) (w : World) (hn : L.length ≤ 1048576) (hcap : L.length ≤ cap) (hcm : cap ≤ maxLen) (hc : NumL w (some A) L) :
    Calls Try.prog 35 #[.slice (some A) L.length cap, .int .i64 x] w fun e w' => ∃ va vc, e = .returned (.slice va (putL L x).length vc) ∧ OwnI w' w.heap.size (.slice va (putL L x).length vc) (putL L x) ∧ Below w.heap.size w w' := by
  have hi := hc.ints
  unfold maxLen at hcm
  go_enter Try.func35, Try.ntmps35
  go_wp2
  go_loop [5] (fun i => ∃ k : Nat, k ≤ L.length ∧ i = .int .i64 k ∧ (∀ j, j < k → nthI L j < x)) (fun i => L.length - (intOf i).toNat)
  case atStart => exact ⟨0, Nat.zero_le _, rfl, fun j hj => by omega⟩
  case round =>
    obtain ⟨k, hk, rfl, hall⟩ := hrel
    have HA : Hid (∀ j, j < k → nthI L j < x) := hall
    clear hall
    have HC : Hid (NumL w (some A) L) := hc
    by_cases hlt' : k < L.length
    · obtain ⟨b, off, eA, hlt, hcc⟩ := hi (by omega)
      obtain rfl : A = ⟨b, off, none⟩ := by simpa using eA
      have g1 := hcc k hlt'
      have hki : (k : Int) < (L.length : Int) := by omega
      clear hcc hc hi
      by_cases t : nthI L k < x
      · go_wp2
        go_round
        case rel =>
          refine ⟨k + 1, by omega, by go_num, fun j hj => ?_⟩
          by_cases e : j = k
          · subst e; exact t
          · exact HA.out j (by omega)
        case measure => simp [intOf]; omega
      · have ek : putAt L x = k := putAt_eq (by omega) HA.out (.inr t)
        obtain ⟨T, hT⟩ : ∃ T, T = L.take k := ⟨_, rfl⟩
        obtain ⟨D, hD⟩ : ∃ D, D = L.drop k := ⟨_, rfl⟩
        have lT : Hid (T.length = k) := by show _ = _; rw [hT, List.length_take]; omega
        have lD : Hid (D.length = L.length - k) := by show _ = _; rw [hD, List.length_drop]
        obtain ⟨R2, hR2⟩ : ∃ R2, R2 = T ++ [x] := ⟨_, rfl⟩
        obtain ⟨R3, hR3⟩ : ∃ R3, R3 = R2 ++ D := ⟨_, rfl⟩
        have lR3 : Hid (R3.length = L.length + 1) := by show _ = _; rw [hR3, hR2]; simp [lT.out, lD.out]; omega
        have lR2 : Hid (R2.length = k + 1) := by show _ = _; rw [hR2]; simp [lT.out]
        have HT : Hid (T = L.take k) := hT
        have HD : Hid (D = L.drop k) := hD
        have HR2 : Hid (R2 = T ++ [x]) := hR2
        have HR3 : Hid (R3 = R2 ++ D) := hR3
        have HK : Hid (putAt L x = k) := ek
        have ID : NumL w (some ⟨b, off + k, none⟩) D := by rw [hD]; exact HC.out.drop k
        clear hT hD hR2 hR3 ek
        have E0 : Below w.heap.size w (w.alloc (.cells #[] 2)) := (Below.refl _ w).alloc (Nat.le_refl _) _
        have O0 := OwnI.made w w.heap.size (Nat.le_refl _)
        have s0 : (w.alloc (.cells #[] 2)).heap.size = w.heap.size + 1 := by simp
        have ki : (k : Int) ≤ (L.length : Int) := by omega
        have kc : (k : Int) ≤ (cap : Int) := by omega
        cases t2 : (nthI L k == x) with
        | true =>
          have HX : Hid (L[k]? = some x) := by show _ = _; have := beq_iff_eq.1 t2; simp [nthI, hlt'] at this; simp [hlt', this]
          go_wp2_with (at_builtin; refine wpList_append_intsR _ rfl _ _ rfl w.heap.size _ [] rfl O0 _ _ _ L rfl rfl (HC.out.below E0) L (by simp) (by omega) (by simp) ?_; intro a' c' w' hown' hgrow' hat')
          go_ret
          have e : putL L x = L := by unfold putL; rw [HK.out, HX.out]; simp
          rw [e]
          exact ⟨_, _, rfl, hown', E0.grown hgrow' (by simp) (fun j e => by cases e; exact Nat.le_refl _)⟩
        | false =>
          have HX : Hid (¬ L[k]? = some x) := by show ¬ _; have := beq_eq_false_iff_ne.1 t2; simp [nthI, hlt'] at this; simp [hlt', this]
          go_wp2_with (first
            | (at_builtin; have hq := hown2; clear hq; refine wpList_append_intsR _ rfl _ _ rfl w.heap.size (.slice a2 R2.length c2) R2 rfl hown2 _ _ _ D rfl lD.out (ID.below E2) R3 HR3.out (by rw [lR3.out]; omega) E2.size ?_; intro a3 c3 w3 hown3 hgrow3 hat3)
            | (at_builtin; have hq := hown1; clear hq; refine wpList_append_intsR _ rfl _ _ rfl w.heap.size (.slice a1 T.length c1) T rfl (hown1.alloc _) _ _ _ [x] rfl rfl (NumL.one x) R2 HR2.out (by rw [lR2.out]; omega) (Nat.le_trans E1.size (by simp)) ?_; intro a2 c2 w2 hown2 hgrow2 hat2; have E2 : Below w.heap.size w w2 := (E1.alloc E1.size _).grown hgrow2 (Nat.le_trans E1.size (by simp)) (fun j e => (World.ownsRow.lt hown1 j e).1))
            | (at_builtin; refine wpList_append_intsR _ rfl _ _ rfl w.heap.size (.slice (some ⟨w.heap.size, 0, none⟩) 0 0) [] rfl O0 _ _ _ T rfl lT.out ((HT.out ▸ HC.out.take k).below E0) T (by simp) (by rw [lT.out]; omega) (by simp) ?_; intro a1 c1 w1 hown1 hgrow1 hat1; have E1 : Below w.heap.size w w1 := E0.grown hgrow1 (by simp) (fun j e => by cases e; exact Nat.le_refl _)))
          go_ret
          have e : putL L x = R3 := by
            unfold putL
            rw [HK.out, if_neg HX.out, HR3.out, HR2.out, HT.out, HD.out]
          rw [e]
          exact ⟨_, _, rfl, hown3, E2.grown hgrow3 E2.size (fun j e => (World.ownsRow.lt hown2 j e).1)⟩
    · have hkL : k = L.length := by omega
      have ek : putAt L x = k := putAt_eq (by omega) HA.out (.inl hkL)
      have HK : Hid (putAt L x = k) := ek
      have HKL : Hid (k = L.length) := hkL
      obtain ⟨R2, hR2⟩ : ∃ R2, R2 = L ++ [x] := ⟨_, rfl⟩
      have HR2 : Hid (R2 = L ++ [x]) := hR2
      have lR2 : Hid (R2.length = L.length + 1) := by show _ = _; rw [hR2]; simp
      have nk : ¬ (k : Int) < (L.length : Int) := by omega
      clear hR2 ek hkL hc hi
      have E0 : Below w.heap.size w (w.alloc (.cells #[] 2)) := (Below.refl _ w).alloc (Nat.le_refl _) _
      have O0 := OwnI.made w w.heap.size (Nat.le_refl _)
      have kc : (k : Int) ≤ (cap : Int) := by omega
      have fin : Hid (putL L x = R2) := by
        show _ = _
        unfold putL
        rw [HK.out, if_neg (by rw [List.getElem?_eq_none (by have := HKL.out; omega)]; simp), HR2.out, HKL.out]
        simp
      go_wp2_with (first
          | (at_builtin; have hq := hown2; clear hq; refine wpList_append_intsR _ rfl _ _ rfl w.heap.size (.slice a2 R2.length c2) R2 rfl hown2 _ _ _ [] rfl (by have := HKL.out; simp; omega) (NumL.none _ _) R2 (by simp) (by rw [lR2.out]; omega) E2.size ?_; intro a3 c3 w3 hown3 hgrow3 hat3)
          | (at_builtin; have hq := hown1; clear hq; refine wpList_append_intsR _ rfl _ _ rfl w.heap.size (.slice a1 L.length c1) L rfl (hown1.alloc _) _ _ _ [x] rfl rfl (NumL.one x) R2 HR2.out (by rw [lR2.out]; omega) (Nat.le_trans E1.size (by simp)) ?_; intro a2 c2 w2 hown2 hgrow2 hat2; have E2 : Below w.heap.size w w2 := (E1.alloc E1.size _).grown hgrow2 (Nat.le_trans E1.size (by simp)) (fun j e => (World.ownsRow.lt hown1 j e).1))
          | (at_builtin; refine wpList_append_intsR _ rfl _ _ rfl w.heap.size (.slice (some ⟨w.heap.size, 0, none⟩) 0 0) [] rfl O0 _ _ _ L rfl HKL.out.symm (HC.out.below E0) L (by simp) (by omega) (by simp) ?_; intro a1 c1 w1 hown1 hgrow1 hat1; have E1 : Below w.heap.size w w1 := E0.grown hgrow1 (by simp) (fun j e => by cases e; exact Nat.le_refl _)))
      all_goals
        go_ret
        rw [fin.out]
        exact ⟨_, _, rfl, hown3, E2.grown hgrow3 E2.size (fun j e => (World.ownsRow.lt hown2 j e).1)⟩
end Go.Proofs.Ytkoinmddcnnipaa
namespace Go.Proofs.Ytkoinmddcnnipaa
open Go Go.RowKit Go.Deep Go.Maps Go.BigFrame Go.Shelf

set_option maxRecDepth 100000 in
set_option maxHeartbeats 4000000 in
theorem l2Put_none (cap : Nat) (x : Int) (w : World) :
    Calls Try.prog 35 #[.slice none 0 cap, .int .i64 x] w fun e w' => ∃ va vc, e = .returned (.slice va 1 vc) ∧ OwnI w' w.heap.size (.slice va 1 vc) [x] ∧ Below w.heap.size w w' := by
  have E0 : Below w.heap.size w (w.alloc (.cells #[] 2)) := (Below.refl _ w).alloc (Nat.le_refl _) _
  have O0 := OwnI.made w w.heap.size (Nat.le_refl _)
  go_enter Try.func35, Try.ntmps35
  go_wp2
  go_loopw [5] (fun i wr => i = .int .i64 0 ∧ wr = w) (fun i _ => (intOf i).toNat)
  case atStart => exact ⟨rfl, rfl⟩
  case round =>
    obtain ⟨rfl, rfl⟩ := hrel
    go_wp2_with (first
      | (at_builtin; have hq := hown2; clear hq; refine wpList_append_intsR _ rfl _ _ rfl wr.heap.size (.slice a2 1 c2) [x] rfl hown2 _ _ _ [] rfl rfl (NumL.none _ _) [x] rfl (by simp) E2.size ?_; intro a3 c3 w3 hown3 hgrow3 hat3)
      | (at_builtin; have hq := hown1; clear hq; refine wpList_append_intsR _ rfl _ _ rfl wr.heap.size (.slice a1 0 c1) [] rfl (hown1.alloc _) _ _ _ [x] rfl rfl (NumL.one x) [x] rfl (by simp) (Nat.le_trans E1.size (by simp)) ?_; intro a2 c2 w2 hown2 hgrow2 hat2; have E2 : Below wr.heap.size wr w2 := (E1.alloc E1.size _).grown hgrow2 (Nat.le_trans E1.size (by simp)) (fun j e => (World.ownsRow.lt hown1 j e).1))
      | (at_builtin; refine wpList_append_intsR _ rfl _ _ rfl wr.heap.size (.slice (some ⟨wr.heap.size, 0, none⟩) 0 0) [] rfl O0 _ _ _ [] rfl rfl (NumL.none _ _) [] rfl (by simp) (by simp) ?_; intro a1 c1 w1 hown1 hgrow1 hat1; have E1 : Below wr.heap.size wr w1 := E0.grown hgrow1 (by simp) (fun j e => by cases e; exact Nat.le_refl _)))
    go_ret
    exact ⟨_, _, rfl, hown3, E2.grown hgrow3 E2.size (fun j e => (World.ownsRow.lt hown2 j e).1)⟩
theorem l2Put_all (c : IntL) (x : Int) (w : World) (hc : c.at w) (hn : c.n ≤ 1048576) (hcap : c.n ≤ c.k ∧ c.k ≤ maxLen) :
    Calls Try.prog 35 #[.slice c.a c.n c.k, .int .i64 x] w fun e w' => ∃ va vc, e = .returned (.slice va (putL ((List.range c.n).map c.h) x).length vc) ∧ OwnI w' w.heap.size (.slice va (putL ((List.range c.n).map c.h) x).length vc) (putL ((List.range c.n).map c.h) x) ∧ Below w.heap.size w w' := by
  have el : ((List.range c.n).map c.h).length = c.n := by simp
  cases ha : c.a with
  | some A =>
    have hi := hc.2.intL
    rw [ha] at hi
    have h := l2Put_any A c.k ((List.range c.n).map c.h) x w (by rw [el]; exact hn) (by rw [el]; exact hcap.1) hcap.2 hi
    rw [el] at h
    exact h
  | none =>
    have h0 : c.n = 0 := by
      by_cases e : 0 < c.n
      · obtain ⟨b, off, e', _⟩ := hc.2 e
        rw [ha] at e'
        cases e'
      · omega
    rw [h0]
    exact l2Put_none c.k x w
end Go.Proofs.Ytkoinmddcnnipaa
namespace Go.Proofs.Ytkoinmddcnnipaa
def cutL (c : UInt8) : List UInt8 → List UInt8 × List UInt8 × Bool
  | [] => ([], [], false)
  | b :: l => if b = c then ([], l, true) else (b :: (cutL c l).1, (cutL c l).2.1, (cutL c l).2.2)

theorem cutL_hit (c : UInt8) : ∀ (k : Nat) (L : List UInt8), (∀ j, j < k → L[j]? ≠ some c) → L[k]? = some c → cutL c L = (L.take k, L.drop (k + 1), true) := by
  intro k
  induction k with
  | zero =>
    intro L _ h
    cases L with
    | nil => simp at h
    | cons b l => simp at h; subst h; simp [cutL]
  | succ k ih =>
    intro L h1 h2
    cases L with
    | nil => simp at h2
    | cons b l =>
      have hb : ¬ b = c := by have := h1 0 (by omega); simpa using this
      have := ih l (fun j hj => by have := h1 (j + 1) (by omega); simpa using this) (by simpa using h2)
      simp [cutL, hb, this]

theorem cutL_miss (c : UInt8) : ∀ (L : List UInt8), (∀ j, j < L.length → L[j]? ≠ some c) → cutL c L = (L, [], false) := by
  intro L
  induction L with
  | nil => intro _; rfl
  | cons b l ih =>
    intro h
    have hb : ¬ b = c := by have := h 0 (by simp); simpa using this
    have := ih (fun j hj => by have := h (j + 1) (by simpa using hj); simpa using this)
    simp [cutL, hb, this]

theorem cutL_join (c : UInt8) (L : List UInt8) : L = (cutL c L).1 ++ (if (cutL c L).2.2 = true then c :: (cutL c L).2.1 else []) := by
  induction L with
  | nil => rfl
  | cons b l ih =>
    by_cases hb : b = c
    · subst hb; simp [cutL]
    · have e : cutL c (b :: l) = (b :: (cutL c l).1, (cutL c l).2.1, (cutL c l).2.2) := by simp [cutL, hb]
      rw [e]
      simp only [List.cons_append, List.cons.injEq, true_and]
      exact ih

theorem cutL_none (c : UInt8) (L : List UInt8) (h : (cutL c L).2.2 = false) : (cutL c L).2.1 = [] := by
  induction L with
  | nil => rfl
  | cons b l ih =>
    by_cases hb : b = c
    · subst hb; simp [cutL] at h
    · simp [cutL, hb] at h ⊢; exact ih h

theorem cutL_len1 (c : UInt8) (L : List UInt8) : (cutL c L).1.length ≤ L.length := by
  have := congrArg List.length (cutL_join c L)
  rw [List.length_append] at this
  omega
theorem cutL_len2 (c : UInt8) (L : List UInt8) : (cutL c L).2.1.length ≤ L.length := by
  induction L with
  | nil => simp [cutL]
  | cons b l ih =>
    by_cases hb : b = c
    · subst hb; simp [cutL]
    · simp [cutL, hb]; omega

def digitB (b : UInt8) : Bool := decide (48 ≤ b.toNat) && decide (b.toNat ≤ 57)
def okD (L : List UInt8) : Bool := decide (1 ≤ L.length) && decide (L.length ≤ 10) && (decide (L[0]? ≠ some 48) || decide (L.length ≤ 1)) && L.all digitB
def valL (L : List UInt8) : Nat := L.foldl (fun n b => n * 10 + (b.toNat - 48)) 0
theorem valL_snoc (L : List UInt8) (b : UInt8) : valL (L ++ [b]) = valL L * 10 + (b.toNat - 48) := by simp [valL]
theorem valL_lt : ∀ (L : List UInt8), L.all digitB = true → valL L < 10 ^ L.length := by
  intro L
  induction h : L.length generalizing L with
  | zero => intro _; have : L = [] := List.length_eq_zero_iff.1 h
            subst this; simp [valL]
  | succ n ih =>
    intro hd
    rcases List.eq_nil_or_concat L with rfl | ⟨l, b, rfl⟩
    · simp at h
    · rw [List.concat_eq_append] at *
      have hl : l.length = n := by simpa using h
      rw [valL_snoc]
      rw [List.all_append, Bool.and_eq_true] at hd
      have := ih l hl hd.1
      have hb := hd.2
      simp [digitB] at hb
      rw [Nat.pow_succ]
      omega
def numL (L : List UInt8) : Int := if okD L = true then (valL L : Int) else 0
def decL (n : Nat) : List UInt8 := if h : n < 10 then [UInt8.ofNat (48 + n)] else decL (n / 10) ++ [UInt8.ofNat (48 + n % 10)]
termination_by n
decreasing_by omega

theorem decL_small {n : Nat} (h : n < 10) : decL n = [UInt8.ofNat (48 + n)] := by rw [decL, dif_pos h]
theorem decL_big {n : Nat} (h : ¬ n < 10) : decL n = decL (n / 10) ++ [UInt8.ofNat (48 + n % 10)] := by rw [decL, dif_neg h]

theorem digit_back {b : UInt8} (h : digitB b = true) : UInt8.ofNat (48 + (b.toNat - 48)) = b := by
  simp [digitB] at h
  have : 48 + (b.toNat - 48) = b.toNat := by omega
  rw [this]
  simp

theorem valL_pos : ∀ (L : List UInt8), L ≠ [] → L.all digitB = true → L[0]? ≠ some 48 → 1 ≤ valL L := by
  intro L
  induction h : L.length generalizing L with
  | zero => intro hne; exact absurd (List.length_eq_zero_iff.1 h) hne
  | succ n ih =>
    intro _ hd h0
    rcases List.eq_nil_or_concat L with rfl | ⟨l, b, rfl⟩
    · simp at h
    · rw [List.concat_eq_append] at *
      have hl : l.length = n := by simpa using h
      rw [valL_snoc]
      rw [List.all_append, Bool.and_eq_true] at hd
      by_cases e : l = []
      · subst e
        simp at h0
        have hb := hd.2
        simp [digitB] at hb
        have : b.toNat ≠ 48 := fun e => h0 (UInt8.toNat_inj.1 (by simpa using e))
        simp [valL]; omega
      · have hp : 0 < l.length := List.length_pos_iff.2 e
        have := ih l hl e hd.1 (by rw [List.getElem?_append_left hp] at h0; exact h0)
        omega

theorem dec_val : ∀ (L : List UInt8), L ≠ [] → L.all digitB = true → (L[0]? ≠ some 48 ∨ L.length ≤ 1) → decL (valL L) = L := by
  intro L
  induction h : L.length generalizing L with
  | zero => intro hne; exact absurd (List.length_eq_zero_iff.1 h) hne
  | succ n ih =>
    intro _ hd h0
    rcases List.eq_nil_or_concat L with rfl | ⟨l, b, rfl⟩
    · simp at h
    · rw [List.concat_eq_append] at *
      have hl : l.length = n := by simpa using h
      rw [valL_snoc]
      rw [List.all_append, Bool.and_eq_true] at hd
      have hb := hd.2
      have hb' : digitB b = true := by simpa using hb
      simp [digitB] at hb
      by_cases e : l = []
      · subst e
        have : valL [] = 0 := rfl
        rw [this, Nat.zero_mul, Nat.zero_add, decL_small (by omega), digit_back hb']
        rfl
      · have hp : 0 < l.length := List.length_pos_iff.2 e
        have h1 : l[0]? ≠ some 48 := by
          rcases h0 with h0 | h0
          · rw [List.getElem?_append_left hp] at h0; exact h0
          · omega
        have hv := valL_pos l e hd.1 h1
        rw [decL_big (by omega)]
        have e1 : (valL l * 10 + (b.toNat - 48)) / 10 = valL l := by omega
        have e2 : (valL l * 10 + (b.toNat - 48)) % 10 = b.toNat - 48 := by omega
        rw [e1, e2, ih l hl e hd.1 (.inl h1), digit_back hb']

theorem dec_ok {L : List UInt8} (h : okD L = true) : decL (valL L) = L := by
  simp only [okD, Bool.and_eq_true, Bool.or_eq_true, decide_eq_true_eq] at h
  obtain ⟨⟨⟨h1, _⟩, h2⟩, h3⟩ := h
  exact dec_val L (fun e => by subst e; simp at h1) h3 h2
def catOkL (p : List UInt8) : Bool := okD (cutL 58 p).1 && okD (cutL 58 p).2.1
def catL (p : List UInt8) : Int × Int := (numL (cutL 58 p).1, numL (cutL 58 p).2.1)
def gather : Nat → List UInt8 → Bool → List (Int × Int) → Option (List (Int × Int))
  | _, _, false, cats => some cats
  | 0, _, true, _ => none
  | n + 1, rest, true, cats => if catOkL (cutL 44 rest).1 = true then gather n (cutL 44 rest).2.1 (cutL 44 rest).2.2 (cats ++ [catL (cutL 44 rest).1]) else none

def catText (c : Int × Int) : List UInt8 := 44 :: (decL c.1.toNat ++ 58 :: decL c.2.toNat)
def txt (base : Int) (cats : List (Int × Int)) : List UInt8 := decL base.toNat ++ (cats.map catText).flatten
theorem txt_snoc (base : Int) (cats : List (Int × Int)) (c : Int × Int) : txt base (cats ++ [c]) = txt base cats ++ catText c := by simp [txt]

theorem catText_ok {p : List UInt8} (h : catOkL p = true) : catText (catL p) = 44 :: p := by
  unfold catOkL at h
  rw [Bool.and_eq_true] at h
  have hj := cutL_join 58 p
  have hm : (cutL 58 p).2.2 = true := by
    cases hf : (cutL 58 p).2.2 with
    | true => rfl
    | false =>
      have := cutL_none 58 p hf
      rw [this] at h
      simp [okD] at h
  rw [hm, if_pos rfl] at hj
  unfold catText catL numL
  rw [if_pos h.1, if_pos h.2]
  simp only [Int.toNat_natCast]
  rw [dec_ok h.1, dec_ok h.2, ← hj]

end Go.Proofs.Ytkoinmddcnnipaa
namespace Go.Proofs.Ytkoinmddcnnipaa
open Go.RowKit Go.Deep

theorem byte_at (s : ByteArray) (k : Nat) (h : k < s.size) : s.data.toList[k]? = some s[k] := by
  have h' : k < s.data.toList.length := by simpa using h
  rw [List.getElem?_eq_getElem h']
  rfl
theorem byte_none (s : ByteArray) (k : Nat) (h : ¬ k < s.size) : s.data.toList[k]? = none := by
  have h' : ¬ k < s.data.toList.length := by simpa using h
  simpa using h'
theorem bytes_eta (s : ByteArray) : (⟨s.data.toList.toArray⟩ : ByteArray) = s := by cases s; simp
theorem byte_ne {b c : UInt8} (h : ¬ (b.toNat : Int) = (c.toNat : Int)) : b ≠ c := fun e => h (by rw [e])
theorem byte_eq {b c : UInt8} (h : (b.toNat : Int) = (c.toNat : Int)) : b = c := UInt8.toNat_inj.1 (by omega)

theorem ext_take (s : ByteArray) (k : Nat) : s.extract 0 k = ⟨(s.data.toList.take k).toArray⟩ := by
  apply ByteArray.ext
  apply Array.ext'
  simp
theorem ext_drop (s : ByteArray) (k : Nat) : s.extract k s.size = ⟨(s.data.toList.drop k).toArray⟩ := by
  apply ByteArray.ext
  apply Array.ext'
  simp only [ByteArray.data_extract, Array.toList_extract, List.extract]
  rw [List.take_of_length_le]
  simp
def cutV (c : UInt8) (L : List UInt8) : Value := .tuple #[.string ⟨(cutL c L).1.toArray⟩, .string ⟨(cutL c L).2.1.toArray⟩, .bool (cutL c L).2.2]
def numV (L : List UInt8) : Value := .tuple #[.int .i64 (numL L), .bool (okD L)]

theorem okD_short {s : ByteArray} (h : ¬ 1 ≤ s.size) : okD s.data.toList = false := by
  have : ¬ 1 ≤ s.data.toList.length := by simpa using h
  simp [okD]; omega
theorem okD_long {s : ByteArray} (h : ¬ s.size ≤ 10) : okD s.data.toList = false := by
  have e : s.data.toList.length = s.size := by simp
  have : ¬ s.data.toList.length ≤ 10 := by omega
  simp only [okD, this, decide_false, Bool.and_false, Bool.false_and]
theorem okD_zero {s : ByteArray} (h0 : 0 < s.size) (hz : s[0] = 48) (h : ¬ s.size ≤ 1) : okD s.data.toList = false := by
  have e : s.data.toList.length = s.size := by simp
  have h1 : ¬ s.data.toList.length ≤ 1 := by omega
  have h2 : s.data.toList[0]? = some 48 := by rw [byte_at s 0 h0, hz]
  simp only [okD, h1, h2, ne_eq, not_true_eq_false, decide_false, Bool.or_false, Bool.and_false, Bool.false_and]
theorem okD_digit {s : ByteArray} {k : Nat} (hk : k < s.size) (h : digitB s[k] = false) : okD s.data.toList = false := by
  have : s.data.toList.all digitB = false := by
    rw [List.all_eq_false]
    exact ⟨s[k], Array.getElem_mem_toList hk, by simp [h]⟩
  simp only [okD, this, Bool.and_false]
theorem okD_yes {s : ByteArray} (h1 : 1 ≤ s.size) (h2 : s.size ≤ 10) (h3 : ∀ h : 0 < s.size, s[0] ≠ 48 ∨ s.size ≤ 1) (h4 : ∀ (k : Nat) (hk : k < s.size), digitB s[k] = true) : okD s.data.toList = true := by
  have e : s.data.toList.length = s.size := by simp
  have hd : s.data.toList.all digitB = true := by
    rw [List.all_eq_true]
    intro b hb
    obtain ⟨k, hk, rfl⟩ := List.getElem_of_mem hb
    exact h4 k (by rw [← e]; exact hk)
  have hz : (decide (s.data.toList[0]? ≠ some 48) || decide (s.data.toList.length ≤ 1)) = true := by
    rw [Bool.or_eq_true, decide_eq_true_eq, decide_eq_true_eq, byte_at s 0 (by omega), e]
    rcases h3 (by omega) with h | h
    · exact .inl (by simpa using h)
    · exact .inr h
  unfold okD
  rw [hz, hd, e]
  simp [h1, h2]
theorem take_snoc (s : ByteArray) (k : Nat) (hk : k < s.size) : s.data.toList.take (k + 1) = s.data.toList.take k ++ [s[k]] := by
  rw [List.take_add_one, byte_at s k hk]; rfl
theorem take_val (s : ByteArray) (k : Nat) (hk : k < s.size) (hd : digitB s[k] = true) : (valL (s.data.toList.take (k + 1)) : Int) = (valL (s.data.toList.take k) : Int) * 10 + ((s[k].toNat : Int) - 48) := by
  rw [take_snoc s k hk, valL_snoc]
  simp [digitB] at hd
  omega
theorem take_lt (s : ByteArray) (k : Nat) (hk : k ≤ s.size) (h10 : s.size ≤ 10) (hd : ∀ (j : Nat) (hj : j < s.size), j < k → digitB s[j] = true) : valL (s.data.toList.take k) < 10 ^ 10 := by
  have hall : (s.data.toList.take k).all digitB = true := by
    rw [List.all_eq_true]
    intro b hb
    obtain ⟨j, hj, rfl⟩ := List.getElem_of_mem hb
    rw [List.length_take] at hj
    have e : s.data.toList.length = s.size := by simp
    rw [List.getElem_take]
    exact hd j (by omega) (by omega)
  have h := valL_lt _ hall
  have hl : (s.data.toList.take k).length ≤ 10 := by rw [List.length_take]; have e : s.data.toList.length = s.size := by simp
                                                     omega
  exact Nat.lt_of_lt_of_le h (Nat.pow_le_pow_right (by omega) hl)
theorem digit_lo {b : UInt8} (h : (b.toNat : Int) < 48) : digitB b = false := by
  have : ¬ 48 ≤ b.toNat := by omega
  simp [digitB, this]
theorem digit_hi {b : UInt8} (h : 57 < (b.toNat : Int)) : digitB b = false := by
  have : ¬ b.toNat ≤ 57 := by omega
  simp [digitB, this]
theorem digit_yes {b : UInt8} (h1 : ¬ (b.toNat : Int) < 48) (h2 : ¬ 57 < (b.toNat : Int)) : digitB b = true := by
  have e1 : 48 ≤ b.toNat := by omega
  have e2 : b.toNat ≤ 57 := by omega
  simp [digitB, e1, e2]

end Go.Proofs.Ytkoinmddcnnipaa
namespace Go.Proofs.Ytkoinmddcnnipaa
open Go.RowKit Go.Deep

theorem bytes_app (a l : List UInt8) : ((⟨a.toArray⟩ : ByteArray) ++ (⟨l.toArray⟩ : ByteArray)) = ⟨(a ++ l).toArray⟩ := by
  apply ByteArray.ext
  apply Array.ext'
  simp
theorem decL_len (n : Nat) : (decL n).length ≤ n + 1 := by
  induction n using Nat.strongRecOn with
  | _ n ih =>
    by_cases h : n < 10
    · rw [decL_small h]; simp
    · rw [decL_big h, List.length_append]
      have := ih (n / 10) (by omega)
      simp
      omega

set_option maxRecDepth 100000 in
set_option maxHeartbeats 2000000 in
theorem l1Dec_any (n : Nat) (w : World) (hn : n ≤ 10000000000) :
    Calls Try.prog 93 #[.int .i64 n] w fun e w' => e = .returned (.string ⟨(decL n).toArray⟩) ∧ Below w.heap.size w w' := by
  have hlen := decL_len n
  go_enter Try.func93, Try.ntmps93
  go_wp2
  go_loopw [0, 3] (fun x s wr => ∃ (k : Nat) (l : List UInt8), k ≤ n ∧ x = .int .i64 k ∧ s = .string ⟨l.toArray⟩ ∧ decL n = decL k ++ l ∧ Below w.heap.size w wr) (fun x _ _ => (intOf x).toNat)
  case atStart => exact ⟨n, [], Nat.le_refl _, rfl, rfl, by simp, Below.refl _ _⟩
  case round =>
    obtain ⟨k, l, hk, rfl, rfl, hd, hB⟩ := hrel
    have hl : l.length ≤ 10000000001 := by
      have := congrArg List.length hd
      rw [List.length_append] at this
      omega
    have HD : Hid (decL n = decL k ++ l) := hd
    clear hd
    by_cases h10 : k < 10
    · have h10' : ¬ (10 : Int) ≤ (k : Int) := by omega
      obtain ⟨b, hb⟩ : ∃ b, b = UInt8.ofNat (48 + (k : Int)).toNat := ⟨_, rfl⟩
      have ob := fun (w : World) => one_byte w (48 + (k : Int)) (by omega) (by omega)
      rw [← hb] at ob
      have HB : Hid (b = UInt8.ofNat (48 + k)) := hb
      clear hb
      go_wp2
      go_ret
      refine ⟨?_, hB.alloc hB.size _⟩
      rw [bytes_cons, HD.out, decL_small h10, ← HB.out]
      rfl
    · have h10' : (10 : Int) ≤ (k : Int) := by omega
      obtain ⟨b, hb⟩ : ∃ b, b = UInt8.ofNat (48 + (k : Int) % 10).toNat := ⟨_, rfl⟩
      have ob := fun (w : World) => one_byte w (48 + (k : Int) % 10) (by omega) (by omega)
      rw [← hb] at ob
      have HB : Hid (b = UInt8.ofNat (48 + k % 10)) := hb
      clear hb
      go_wp2
      go_roundw
      case rel =>
        refine ⟨k / 10, b :: l, by omega, by go_num, by rw [bytes_cons], ?_, hB.alloc hB.size _⟩
        rw [HD.out, decL_big h10, ← HB.out, List.append_assoc]
        rfl
      case measure => simp [intOf]; omega
end Go.Proofs.Ytkoinmddcnnipaa
