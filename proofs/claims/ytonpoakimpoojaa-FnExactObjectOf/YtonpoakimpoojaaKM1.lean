/- Marks in kernels: what is written lies in a range of blocks, and rows stay rows; marks in lists. -/
import Derived.Test.YtonpoakimpoojaaKM0
namespace Go.Proofs.Ytonpoakimpoojaa
open Go Go.RowKit Go.Deep

/-- from w to w' only blocks from lo below hi were written, and rows stay rows -/
structure Mk (lo hi : Nat) (w w' : World) : Prop where
  os : w'.os = w.os
  tape : w'.tape = w.tape
  output : w'.output = w.output
  size : w.heap.size ≤ w'.heap.size
  block : ∀ k, k < w.heap.size → (k < lo ∨ hi ≤ k) → w'.heap[k]? = w.heap[k]?
  rows : ∀ b ty m F, w.rowIs b ty m F → ∃ F', w'.rowIs b ty m F'
/-- .. and of these only rows of categories, numbers and texts -/
structure MkL (lo hi : Nat) (w w' : World) : Prop extends Mk lo hi w w' where
  big : ∀ b ty m F, ty ≠ 112 → ty ≠ 2 → ty ≠ 9 → w.rowIs b ty m F → w'.rowIs b ty m F

theorem Mk.refl (lo hi : Nat) (w : World) : Mk lo hi w w := ⟨rfl, rfl, rfl, Nat.le_refl _, fun _ _ _ => rfl, fun _ _ _ F h => ⟨F, h⟩⟩
theorem MkL.refl (lo hi : Nat) (w : World) : MkL lo hi w w := ⟨Mk.refl lo hi w, fun _ _ _ _ _ _ _ h => h⟩
theorem Mk.trans {lo hi : Nat} {a b c : World} (h : Mk lo hi a b) (k : Mk lo hi b c) : Mk lo hi a c :=
  ⟨k.os.trans h.os, k.tape.trans h.tape, k.output.trans h.output, Nat.le_trans h.size k.size, fun j hj hn => (k.block j (Nat.lt_of_lt_of_le hj h.size) hn).trans (h.block j hj hn), fun b ty m F hF => by
    obtain ⟨F', h'⟩ := h.rows b ty m F hF
    exact k.rows b ty m F' h'⟩
theorem MkL.trans {lo hi : Nat} {a b c : World} (h : MkL lo hi a b) (k : MkL lo hi b c) : MkL lo hi a c :=
  ⟨h.toMk.trans k.toMk, fun b ty m F h1 h2 h3 hF => k.big b ty m F h1 h2 h3 (h.big b ty m F h1 h2 h3 hF)⟩
theorem MkL.of_below {lo hi : Nat} {w w' : World} (h : Below w.heap.size w w') : MkL lo hi w w' :=
  ⟨⟨h.os, h.tape, h.output, h.size, fun k hk _ => h.block k hk, fun _ _ _ F hF => ⟨F, rowUp hF h⟩⟩, fun _ _ _ _ _ _ _ hF => rowUp hF h⟩
theorem Mk.set {lo hi : Nat} {w wr : World} (h : Mk lo hi w wr) {b : Nat} (h1 : lo ≤ b) (h2 : b < hi) (i : Nat) (v : Value) : Mk lo hi w (wr.setCell ⟨b, i, none⟩ v) :=
  ⟨h.os, h.tape, h.output, by rw [nblk_setCell]; exact h.size, fun k hk hn => (blk_setCell_other _ _ _ _ (by dsimp only; omega)).trans (h.block k hk hn), fun b' ty m F hF => by
    obtain ⟨F', h'⟩ := h.rows b' ty m F hF
    by_cases e : b' = b
    · subst e; exact ⟨_, h'.set i v⟩
    · exact ⟨F', h'.setOther (a := ⟨b, i, none⟩) e v⟩⟩
theorem MkL.set {lo hi : Nat} {w wr : World} (h : MkL lo hi w wr) {b ty m : Nat} {F : Nat → Value} (hb : wr.rowIs b ty m F) (ht : ty = 112 ∨ ty = 2 ∨ ty = 9) (h1 : lo ≤ b) (h2 : b < hi) (i : Nat) (v : Value) : MkL lo hi w (wr.setCell ⟨b, i, none⟩ v) :=
  ⟨h.toMk.set h1 h2 i v, fun b' ty' m' F' n1 n2 n3 hF => by
    have hF' := h.big b' ty' m' F' n1 n2 n3 hF
    exact hF'.setOther (a := ⟨b, i, none⟩) (row_ne hF' hb (by rcases ht with rfl | rfl | rfl <;> assumption)) v⟩

def CatL.room (lo hi : Nat) (w : World) (c : CatL) : Prop := c.n ≤ 1048576 ∧ (0 < c.n → ∃ b m F, c.a = some ⟨b, 0, none⟩ ∧ lo ≤ b ∧ b < hi ∧ c.n * 2 ≤ m ∧ w.rowIs b 112 m F)
def IntL.room (lo hi : Nat) (w : World) (c : IntL) : Prop := c.n ≤ 1048576 ∧ (0 < c.n → ∃ b m F, c.a = some ⟨b, 0, none⟩ ∧ lo ≤ b ∧ b < hi ∧ c.n ≤ m ∧ w.rowIs b 2 m F)
def StrL.room (lo hi : Nat) (w : World) (c : StrL) : Prop := c.n ≤ 1048576 ∧ (0 < c.n → ∃ b m F, c.a = some ⟨b, 0, none⟩ ∧ lo ≤ b ∧ b < hi ∧ c.n ≤ m ∧ w.rowIs b 9 m F)
theorem CatL.room.mk {lo hi : Nat} {w w' : World} {c : CatL} (h : c.room lo hi w) (k : Mk lo hi w w') : c.room lo hi w' := ⟨h.1, fun hn => by
  obtain ⟨b, m, F, e, h1, h2, h3, h4⟩ := h.2 hn
  obtain ⟨F', h'⟩ := k.rows b 112 m F h4
  exact ⟨b, m, F', e, h1, h2, h3, h'⟩⟩
theorem IntL.room.mk {lo hi : Nat} {w w' : World} {c : IntL} (h : c.room lo hi w) (k : Mk lo hi w w') : c.room lo hi w' := ⟨h.1, fun hn => by
  obtain ⟨b, m, F, e, h1, h2, h3, h4⟩ := h.2 hn
  obtain ⟨F', h'⟩ := k.rows b 2 m F h4
  exact ⟨b, m, F', e, h1, h2, h3, h'⟩⟩
theorem StrL.room.mk {lo hi : Nat} {w w' : World} {c : StrL} (h : c.room lo hi w) (k : Mk lo hi w w') : c.room lo hi w' := ⟨h.1, fun hn => by
  obtain ⟨b, m, F, e, h1, h2, h3, h4⟩ := h.2 hn
  obtain ⟨F', h'⟩ := k.rows b 9 m F h4
  exact ⟨b, m, F', e, h1, h2, h3, h'⟩⟩

set_option maxRecDepth 100000 in
set_option maxHeartbeats 2000000 in
theorem markCatS_k (c : CatL) (lo hi : Nat) (k0 : Int) (w : World) (hr : c.room lo hi w) (h0 : 0 ≤ k0) (h1 : k0 ≤ 1000000000000000) :
    Calls Try.prog 77 #[c.val, .int .i64 k0] w fun e w' => e = .returned (.int .i64 (k0 + 2 * c.n)) ∧ MkL lo hi w w' := by
  obtain ⟨a, n, cap, f, g⟩ := c
  obtain ⟨hn, hr⟩ := hr
  simp only at hn hr
  unfold CatL.val
  simp only
  have HR := hid hr
  clear hr
  go_enter Try.func77, Try.ntmps77
  go_wp2
  go_loopw [1, 5] (fun kk i wr => ∃ j : Nat, j ≤ n ∧ i = .int .i64 j ∧ kk = .int .i64 (k0 + 2 * j) ∧ Hid (MkL lo hi w wr)) (fun _ i _ => n - (intOf i).toNat)
  case atStart => exact ⟨0, Nat.zero_le _, rfl, by simp, hid (MkL.refl _ _ _)⟩
  case round =>
    obtain ⟨j, hj, rfl, rfl, HM⟩ := hrel
    by_cases hlt : j < n
    · obtain ⟨b, m, F, rfl, l1, l2, hm, hR⟩ := HR.out (by omega)
      obtain ⟨F', hR'⟩ := HM.out.rows b 112 m F hR
      have c1 := hR'.cell (i := j * 2) (by omega)
      have c2 := hR'.cell (i := j * 2 + 1) (by omega)
      have f1 := hR'.frozen (j * 2)
      have f2 := hR'.frozen (j * 2 + 1)
      have M1 := hid ((HM.out.set hR' (by omega) l1 l2 (j * 2) (.int .i64 (k0 + 2 * j))).set (hR'.set (j * 2) _) (by omega) l1 l2 (j * 2 + 1) (.int .i64 (k0 + 2 * j + 1)))
      have i1 : (j : Int) < (n : Int) := by omega
      clear hR hR' HM
      go_wp2
      exact ⟨⟨j + 1, by omega, by go_num, by go_num, M1⟩, by simp [intOf]; omega⟩
    · go_wp2
      go_ret
      have e : j = n := by omega
      subst e
      exact ⟨rfl, HM.out⟩

set_option maxRecDepth 100000 in
set_option maxHeartbeats 2000000 in
theorem markInt_k (c : IntL) (lo hi : Nat) (k0 : Int) (w : World) (hr : c.room lo hi w) (h0 : 0 ≤ k0) (h1 : k0 ≤ 1000000000000000) :
    Calls Try.prog 27 #[c.val, .int .i64 k0] w fun e w' => e = .returned (.int .i64 (k0 + c.n)) ∧ MkL lo hi w w' := by
  obtain ⟨a, n, cap, f⟩ := c
  obtain ⟨hn, hr⟩ := hr
  simp only at hn hr
  unfold IntL.val
  simp only
  have HR := hid hr
  clear hr
  go_enter Try.func27, Try.ntmps27
  go_wp2
  go_loopw [1, 5] (fun kk i wr => ∃ j : Nat, j ≤ n ∧ i = .int .i64 j ∧ kk = .int .i64 (k0 + j) ∧ Hid (MkL lo hi w wr)) (fun _ i _ => n - (intOf i).toNat)
  case atStart => exact ⟨0, Nat.zero_le _, rfl, by simp, hid (MkL.refl _ _ _)⟩
  case round =>
    obtain ⟨j, hj, rfl, rfl, HM⟩ := hrel
    by_cases hlt : j < n
    · obtain ⟨b, m, F, rfl, l1, l2, hm, hR⟩ := HR.out (by omega)
      obtain ⟨F', hR'⟩ := HM.out.rows b 2 m F hR
      have c1 := hR'.cell (i := j) (by omega)
      have f1 := hR'.frozen j
      have M1 := hid (HM.out.set hR' (by omega) l1 l2 j (.int .i64 (k0 + j)))
      have i1 : (j : Int) < (n : Int) := by omega
      clear hR hR' HM
      go_wp2
      exact ⟨⟨j + 1, by omega, by go_num, by go_num, M1⟩, by simp [intOf]; omega⟩
    · go_wp2
      go_ret
      have e : j = n := by omega
      subst e
      exact ⟨rfl, HM.out⟩

theorem markText_k (k : Int) (w : World) (h0 : 1 ≤ k) (h1 : k ≤ 10000000000000000) :
    Calls Try.prog 78 #[.int .i64 k] w fun e w' => ∃ s, e = .returned (.string s) ∧ Below w.heap.size w w' := by
  obtain ⟨n, rfl⟩ : ∃ n : Nat, k = n := ⟨k.toNat, by omega⟩
  exact (markText_any n w (by omega) (by omega)).mono fun _ _ ⟨he, hb⟩ => ⟨_, he, hb⟩

set_option maxRecDepth 100000 in
set_option maxHeartbeats 2000000 in
theorem markStr_k (c : StrL) (lo hi : Nat) (k0 : Int) (w : World) (hr : c.room lo hi w) (h0 : 1 ≤ k0) (h1 : k0 ≤ 1000000000000000) :
    Calls Try.prog 54 #[c.val, .int .i64 k0] w fun e w' => e = .returned (.int .i64 (k0 + c.n)) ∧ MkL lo hi w w' := by
  obtain ⟨a, n, cap, f⟩ := c
  obtain ⟨hn, hr⟩ := hr
  simp only at hn hr
  unfold StrL.val
  simp only
  have HR := hid hr
  clear hr
  go_enter Try.func54, Try.ntmps54
  go_wp2
  go_loopw [1, 5] (fun kk i wr => ∃ j : Nat, j ≤ n ∧ i = .int .i64 j ∧ kk = .int .i64 (k0 + j) ∧ Hid (MkL lo hi w wr)) (fun _ i _ => n - (intOf i).toNat)
  case atStart => exact ⟨0, Nat.zero_le _, rfl, by simp, hid (MkL.refl _ _ _)⟩
  case round =>
    obtain ⟨j, hj, rfl, rfl, HM⟩ := hrel
    by_cases hlt : j < n
    · obtain ⟨b, m, F, rfl, l1, l2, hm, hR⟩ := HR.out (by omega)
      have i1 : (j : Int) < (n : Int) := by omega
      go_wp2_with fail
      refine (markText_k _ _ (by omega) (by omega)).mono ?_
      rintro e w2 ⟨s, rfl, hb2⟩
      have M2 := hid (HM.out.trans (MkL.of_below (lo := lo) (hi := hi) hb2))
      obtain ⟨F', hR'⟩ := M2.out.rows b 9 m F hR
      have c1 := hR'.cell (i := j) (by omega)
      have f1 := hR'.frozen j
      have M1 := hid (M2.out.set hR' (by omega) l1 l2 j (.string s))
      clear hR hR' HM M2 hb2
      go_wp2
      exact ⟨⟨j + 1, by omega, by go_num, by go_num, M1⟩, by simp [intOf]; omega⟩
    · go_wp2
      go_ret
      have e : j = n := by omega
      subst e
      exact ⟨rfl, HM.out⟩
end Go.Proofs.Ytonpoakimpoojaa
