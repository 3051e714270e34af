/- Right packets: l7Ok of the model and packetOk of the program. -/
import Derived.Test.YtaefebcfgcnhlaaNBX
import Derived.Test.YtaefebcfgcnhlaaNKA
namespace Go.Proofs.Ytaefebcfgcnhlaa
open Go Go.RowKit Go.Deep Go.Maps

def inB (x lo hi : Int) : Bool := decide (lo ≤ x) && decide (x ≤ hi)
theorem inB_yes {x lo hi : Int} (h : lo ≤ x) : inB x lo hi = decide (x ≤ hi) := by simp [inB, h]
theorem inB_no {x lo hi : Int} (h : x < lo) : inB x lo hi = false := by simp [inB]; omega

theorem l1In_any (x lo hi : Int) (w : World) :
    Calls Try.prog 39 #[.int .i64 x, .int .i64 lo, .int .i64 hi] w fun e w' => e = .returned (.bool (inB x lo hi)) ∧ w' = w := by
  go_enter Try.func39, Try.ntmps39
  go_wp2
  · go_ret
    exact ⟨ret_bool (inB_yes ‹_›).symm, rfl⟩
  · go_ret
    exact ⟨ret_bool (inB_no ‹_›).symm, rfl⟩

theorem isAddress_any (x : Int) (w : World) :
    Calls Try.prog 41 #[.int .i64 x] w fun e w' => e = .returned (.bool (inB x 0 4294967295)) ∧ w' = w := by
  go_enter Try.func41, Try.ntmps41
  go_wp2
  · go_ret
    exact ⟨ret_bool (inB_yes ‹_›).symm, rfl⟩
  · go_ret
    exact ⟨ret_bool (inB_no ‹_›).symm, rfl⟩

/-- a packet as it lies in memory -/
def pcells (f t k : Int) (B : List UInt8) : Array Value := #[.int .i64 f, .int .i64 t, .int .i64 k, .string ⟨B.toArray⟩]
/-- a packet that can be written -/
def pOk (f t k : Int) (B : List UInt8) : Bool := inB f 0 4294967295 && inB t 0 4294967295 && inB k 0 255 && decide (B.length ≤ 200)

theorem pOk_facts {f t k : Int} {B : List UInt8} (h : pOk f t k B = true) : 0 ≤ f ∧ f ≤ 4294967295 ∧ 0 ≤ t ∧ t ≤ 4294967295 ∧ 0 ≤ k ∧ k ≤ 255 ∧ B.length ≤ 200 := by
  simp only [pOk, inB, Bool.and_eq_true, decide_eq_true_eq] at h
  omega

set_option maxHeartbeats 1000000 in
theorem l7Ok_any (f t k : Int) (B : List UInt8) (w : World) (hn : B.length ≤ maxLen) :
    Calls Try.prog 27 #[.agg #[.int .i64 f, .int .i64 t, .int .i64 k, .string ⟨B.toArray⟩]] w fun e w' => e = .returned (.bool (pOk f t k B)) ∧ w' = w.alloc (.cells #[.int .i64 f, .int .i64 t, .int .i64 k, .string ⟨B.toArray⟩] 25) := by
  unfold maxLen at hn
  have HP : Hid (pOk f t k B = (inB f 0 4294967295 && inB t 0 4294967295 && inB k 0 255 && decide (B.length ≤ 200))) := rfl
  have h1 := fun w => l1In_any f 0 4294967295 w
  have h2 := fun w => l1In_any t 0 4294967295 w
  have h3 := fun w => l1In_any k 0 255 w
  generalize pOk f t k B = r at *
  generalize inB f 0 4294967295 = q1 at *
  generalize inB t 0 4294967295 = q2 at *
  generalize inB k 0 255 = q3 at *
  cases q1
  · have e := HP.out
    simp only [Bool.false_and] at e
    subst e
    go_enter Try.func27, Try.ntmps27
    go_wp2_with (go_at_call 39; refine (h1 _).mono ?_; rintro e w' ⟨rfl, rfl⟩; have hq := h1; clear h1)
    go_ret
    exact ⟨rfl, rfl⟩
  cases q2
  · have e := HP.out
    simp only [Bool.and_false, Bool.false_and] at e
    subst e
    go_enter Try.func27, Try.ntmps27
    go_wp2_with (first | (go_at_call 39; have hq' := hq; refine (h2 _).mono ?_; rintro e w' ⟨rfl, rfl⟩) | (go_at_call 39; refine (h1 _).mono ?_; rintro e w' ⟨rfl, rfl⟩; have hq := h1; clear h1))
    go_ret
    exact ⟨rfl, rfl⟩
  cases q3
  · have e := HP.out
    simp only [Bool.and_false, Bool.false_and] at e
    subst e
    go_enter Try.func27, Try.ntmps27
    go_wp2_with (first | (go_at_call 39; have hq' := hp; refine (h3 _).mono ?_; rintro e w' ⟨rfl, rfl⟩) | (go_at_call 39; have hq' := hq; refine (h2 _).mono ?_; rintro e w' ⟨rfl, rfl⟩; have hp := h2; clear h2) | (go_at_call 39; refine (h1 _).mono ?_; rintro e w' ⟨rfl, rfl⟩; have hq := h1; clear h1))
    go_ret
    exact ⟨rfl, rfl⟩
  · have e := HP.out
    simp only [Bool.and_true, Bool.true_and] at e
    have HP := hid e
    clear e
    go_enter Try.func27, Try.ntmps27
    go_wp2_with (first | (go_at_call 39; have hq' := hp; refine (h3 _).mono ?_; rintro e w' ⟨rfl, rfl⟩) | (go_at_call 39; have hq' := hq; refine (h2 _).mono ?_; rintro e w' ⟨rfl, rfl⟩; have hp := h2; clear h2) | (go_at_call 39; refine (h1 _).mono ?_; rintro e w' ⟨rfl, rfl⟩; have hq := h1; clear h1))
    go_ret
    refine ⟨ret_bool ?_, rfl⟩
    rw [HP.out]
    exact decide_eq_decide.2 (by omega)

theorem pOk_k {f t k : Int} {B : List UInt8} (h : k < 0 ∨ 255 < k) : pOk f t k B = false := by
  have : inB k 0 255 = false := by simp [inB]; omega
  simp [pOk, this]
theorem pOk_b {f t k : Int} {B : List UInt8} (h1 : inB f 0 4294967295 = true) (h2 : inB t 0 4294967295 = true) (h3 : 0 ≤ k) (h4 : k ≤ 255) : pOk f t k B = decide ((B.length : Int) ≤ 200) := by
  have : inB k 0 255 = true := by simp [inB]; omega
  simp only [pOk, this, h1, h2, Bool.true_and]
  exact decide_eq_decide.2 (by omega)

set_option maxHeartbeats 1000000 in
theorem packetOk_any (f t k : Int) (B : List UInt8) (w : World) :
    Calls Try.prog 23 #[.agg #[.int .i64 f, .int .i64 t, .int .i64 k, .string ⟨B.toArray⟩]] w fun e w' => e = .returned (.bool (pOk f t k B)) ∧ w' = w.alloc (.cells #[.int .i64 f, .int .i64 t, .int .i64 k, .string ⟨B.toArray⟩] 25) := by
  have HP : Hid (pOk f t k B = (inB f 0 4294967295 && inB t 0 4294967295 && inB k 0 255 && decide (B.length ≤ 200))) := rfl
  have HK : Hid (k < 0 ∨ 255 < k → pOk f t k B = false) := pOk_k
  have HB : Hid (inB f 0 4294967295 = true → inB t 0 4294967295 = true → 0 ≤ k → k ≤ 255 → pOk f t k B = decide ((B.length : Int) ≤ 200)) := pOk_b
  have h1 := fun w => isAddress_any f w
  have h2 := fun w => isAddress_any t w
  generalize pOk f t k B = r at *
  generalize inB f 0 4294967295 = q1 at *
  generalize inB t 0 4294967295 = q2 at *
  cases q1
  · have e := HP.out
    simp only [Bool.false_and] at e
    subst e
    clear HK HB
    go_enter Try.func23, Try.ntmps23
    go_wp2_with (go_at_call 41; refine (h1 _).mono ?_; rintro e w' ⟨rfl, rfl⟩; have hq := h1; clear h1)
    go_ret
    exact ⟨rfl, rfl⟩
  cases q2
  · have e := HP.out
    simp only [Bool.and_false, Bool.false_and] at e
    subst e
    clear HK HB
    go_enter Try.func23, Try.ntmps23
    go_wp2_with (first | (go_at_call 41; have hq' := hq; refine (h2 _).mono ?_; rintro e w' ⟨rfl, rfl⟩) | (go_at_call 41; refine (h1 _).mono ?_; rintro e w' ⟨rfl, rfl⟩; have hq := h1; clear h1))
    go_ret
    exact ⟨rfl, rfl⟩
  by_cases k0 : 0 ≤ k
  · by_cases k1 : k ≤ 255
    · have e := HB.out rfl rfl k0 k1
      have HE := hid e
      clear e HB HK HP
      go_enter Try.func23, Try.ntmps23
      go_wp2_with (first | (go_at_call 41; have hq' := hq; refine (h2 _).mono ?_; rintro e w' ⟨rfl, rfl⟩) | (go_at_call 41; refine (h1 _).mono ?_; rintro e w' ⟨rfl, rfl⟩; have hq := h1; clear h1))
      go_ret
      exact ⟨ret_bool HE.out.symm, rfl⟩
    · have e := HK.out (.inr (by omega))
      subst e
      clear HB HK HP
      go_enter Try.func23, Try.ntmps23
      go_wp2_with (first | (go_at_call 41; have hq' := hq; refine (h2 _).mono ?_; rintro e w' ⟨rfl, rfl⟩) | (go_at_call 41; refine (h1 _).mono ?_; rintro e w' ⟨rfl, rfl⟩; have hq := h1; clear h1))
      go_ret
      exact ⟨rfl, rfl⟩
  · have e := HK.out (.inl (by omega))
    subst e
    clear HB HK HP
    go_enter Try.func23, Try.ntmps23
    go_wp2_with (first | (go_at_call 41; have hq' := hq; refine (h2 _).mono ?_; rintro e w' ⟨rfl, rfl⟩) | (go_at_call 41; refine (h1 _).mono ?_; rintro e w' ⟨rfl, rfl⟩; have hq := h1; clear h1))
    go_ret
    exact ⟨rfl, rfl⟩

/-- what lies in a block -/
def Blk (W : World) (P : Nat) (o : Obj) : Prop := W.heap[P]? = some o
theorem Blk.new (W : World) (o : Obj) : Blk (W.alloc o) W.heap.size o := blk_alloc_new _ _
theorem Blk.lt {W : World} {P : Nat} {o : Obj} (h : Blk W P o) : P < W.heap.size := (Array.getElem?_eq_some_iff.1 h).1
theorem Blk.alloc {W : World} {P : Nat} {o : Obj} (h : Blk W P o) (o' : Obj) : Blk (W.alloc o') P o := (blk_alloc_lt _ _ _ h.lt).trans h
theorem Blk.below {W W' : World} {P : Nat} {o : Obj} (h : Blk W P o) (hb : Below W.heap.size W W') : Blk W' P o := (hb.block P h.lt).trans h
theorem Blk.four {W : World} {P t : Nat} {a b c d : Value} (h : Blk W P (.cells #[a, b, c, d] t)) : W.cell? ⟨P, 0, none⟩ = some a ∧ W.cell? ⟨P, 1, none⟩ = some b ∧ W.cell? ⟨P, 2, none⟩ = some c ∧ W.cell? ⟨P, 3, none⟩ = some d := by
  unfold Blk at h
  simp [World.cell?, h]

/-- the first bytes of a packet's text -/
def headL (k : Int) (B : List UInt8) : List UInt8 := 69 :: (bigL k 1 ++ bigL (B.length : Int) 2)
def tailL (f t : Int) (B : List UInt8) : List UInt8 := bigL f 4 ++ bigL t 4 ++ B
def ptext (f t k : Int) (B : List UInt8) : List UInt8 :=
  if pOk f t k B = true then headL k B ++ bigL ((cks ⟨(headL k B ++ tailL f t B).toArray⟩ : Nat) : Int) 2 ++ tailL f t B else []
theorem headL_len (k : Int) (B : List UInt8) : (headL k B).length = 4 := by simp [headL, bigL_len]
theorem tailL_len (f t : Int) (B : List UInt8) : (tailL f t B).length = 8 + B.length := by simp [tailL, bigL_len]; omega
theorem l7Big_gen (x y : Int) (w : World) (h1 : 1 ≤ y) (h2 : y ≤ 8) :
    Calls Try.prog 28 #[.int .i64 x, .int .i64 y] w fun e w' => e = .returned (.string ⟨(bigL x y.toNat).toArray⟩) ∧ Below w.heap.size w w' := by
  obtain ⟨m, rfl⟩ := Int.eq_ofNat_of_zero_le (show 0 ≤ y by omega)
  exact l7Big_any x m w (by omega) (by omega)
theorem highFirst_gen (x y : Int) (w : World) (h1 : 1 ≤ y) (h2 : y ≤ 8) :
    Calls Try.prog 24 #[.int .i64 x, .int .i64 y] w fun e w' => e = .returned (.string ⟨(bigL x y.toNat).toArray⟩) ∧ Below w.heap.size w w' := by
  obtain ⟨m, rfl⟩ := Int.eq_ofNat_of_zero_le (show 0 ≤ y by omega)
  exact highFirst_any x m w (by omega)
end Go.Proofs.Ytaefebcfgcnhlaa
