/- Texts of marks. -/
import Derived.Test.YtjceaajnemgheaaGreatDoorZ4
import Derived.Laws.IdiomStrings
namespace Go.Proofs.YtjceaajnemgheaaGreatDoor
open Go.RowKit Go.Deep

set_option maxRecDepth 100000 in
theorem one_byte (w : World) (x : Int) (h0 : 0 ≤ x) (h1 : x < 256) :
    (convert 80 9 (Value.slice (some ⟨w.heap.size, 0, none⟩) 1 1)).run Tryz.prog (w.alloc (.cells #[.int .u8 x] 5)) = .ok (.string ⟨#[UInt8.ofNat x.toNat]⟩) (w.alloc (.cells #[.int .u8 x] 5)) := by
  refine run_convert_bytes_back (P := Tryz.prog) (w.alloc (.cells #[.int .u8 x] 5)) 80 9 5 ⟨w.heap.size, 0, none⟩ 1 [UInt8.ofNat x.toNat] Tryz.underlying80 Tryz.underlying5 Tryz.underlying9 fun j hj => ?_
  obtain rfl : j = 0 := by simpa using hj
  have e : (((UInt8.ofNat x.toNat).toNat : Nat) : Int) = x := by
    rw [UInt8.toNat_ofNat_of_lt' (by simp [UInt8.size]; omega)]
    omega
  simp only [List.getElem_cons_zero, e]
  simp [Addr.add]
theorem bytes_cons (b : UInt8) (l : List UInt8) : ((⟨#[b]⟩ : ByteArray) ++ (⟨l.toArray⟩ : ByteArray)) = ⟨(b :: l).toArray⟩ := by
  apply ByteArray.ext
  apply Array.ext'
  simp
def digs (n : Nat) : List UInt8 := if _h : n = 0 then [] else digs (n / 10) ++ [UInt8.ofNat (48 + n % 10)]
termination_by n
decreasing_by omega
theorem digs_zero : digs 0 = [] := by rw [digs, dif_pos rfl]
theorem digs_pos {n : Nat} (h : ¬ n = 0) : digs n = digs (n / 10) ++ [UInt8.ofNat (48 + n % 10)] := by rw [digs, dif_neg h]
theorem digs_len (n : Nat) : (digs n).length ≤ n := by
  induction n using Nat.strongRecOn with
  | _ n ih =>
    by_cases h : n = 0
    · subst h; rw [digs_zero]; simp
    · rw [digs_pos h, List.length_append]
      have := ih (n / 10) (by omega)
      simp
      omega

set_option maxRecDepth 100000 in
set_option maxHeartbeats 2000000 in
theorem markText_any (n : Nat) (w : World) (h1 : 0 < n) (hn : n ≤ 100000000000000000) :
    Calls Tryz.prog 39 #[.int .i64 n] w fun e w' => e = .returned (.string ⟨(109 :: digs n).toArray⟩) ∧ Below w.heap.size w w' := by
  have hlen := digs_len n
  go_enter Tryz.func39, Tryz.ntmps39
  go_wp2
  go_loopw [0, 3] (fun x s wr => ∃ (k : Nat) (l : List UInt8), k ≤ n ∧ x = .int .i64 k ∧ s = .string ⟨l.toArray⟩ ∧ digs n = digs k ++ l ∧ Below w.heap.size w wr) (fun x _ _ => (intOf x).toNat)
  case atStart => exact ⟨n, [], Nat.le_refl _, rfl, rfl, by simp, Below.refl _ _⟩
  case round =>
    obtain ⟨k, l, hk, rfl, rfl, hd, hB⟩ := hrel
    have hl : l.length ≤ 100000000000000001 := by
      have := congrArg List.length hd
      rw [List.length_append] at this
      omega
    have HD : Hid (digs n = digs k ++ l) := hd
    clear hd
    by_cases h0 : k = 0
    · subst h0
      go_wp2
      go_ret
      refine ⟨?_, hB⟩
      rw [bytes_cons, HD.out, digs_zero]
      rfl
    · have h0' : (0 : Int) < (k : Int) := by omega
      obtain ⟨b, hb⟩ : ∃ b, b = UInt8.ofNat (48 + (k : Int) % 10).toNat := ⟨_, rfl⟩
      have ob := fun (w : World) => one_byte w (48 + (k : Int) % 10) (by omega) (by omega)
      rw [← hb] at ob
      have HB : Hid (b = UInt8.ofNat (48 + k % 10)) := hb
      clear hb
      go_wp2
      go_roundw
      case rel =>
        refine ⟨k / 10, b :: l, by omega, by go_num, by rw [bytes_cons], ?_, hB.alloc hB.size _⟩
        rw [HD.out, digs_pos h0, ← HB.out, List.append_assoc]
        rfl
      case measure => simp [intOf]; omega
end Go.Proofs.YtjceaajnemgheaaGreatDoor
namespace Go.Proofs.YtjceaajnemgheaaGreatDoor
open Go Go.RowKit Go.Deep
structure Mk (lo hi : Nat) (w w' : World) : Prop where
  os : w'.os = w.os
  tape : w'.tape = w.tape
  output : w'.output = w.output
  size : w.heap.size ≤ w'.heap.size
  block : ∀ k, k < w.heap.size → (k < lo ∨ hi ≤ k) → w'.heap[k]? = w.heap[k]?
  rows : ∀ b ty m F, w.rowIs b ty m F → ∃ F', w'.rowIs b ty m F'
structure MkL (lo hi : Nat) (w w' : World) : Prop extends Mk lo hi w w' where
  big : ∀ b ty m F, ty ≠ 58 → ty ≠ 2 → ty ≠ 9 → w.rowIs b ty m F → w'.rowIs b ty m F

theorem Mk.refl (lo hi : Nat) (w : World) : Mk lo hi w w := ⟨rfl, rfl, rfl, Nat.le_refl _, fun _ _ _ => rfl, fun _ _ _ F h => ⟨F, h⟩⟩
theorem MkL.refl (lo hi : Nat) (w : World) : MkL lo hi w w := ⟨Mk.refl lo hi w, fun _ _ _ _ _ _ _ h => h⟩
theorem Mk.trans {lo hi : Nat} {a b c : World} (h : Mk lo hi a b) (k : Mk lo hi b c) : Mk lo hi a c :=
  ⟨k.os.trans h.os, k.tape.trans h.tape, k.output.trans h.output, Nat.le_trans h.size k.size, fun j hj hn => (k.block j (Nat.lt_of_lt_of_le hj h.size) hn).trans (h.block j hj hn), fun b ty m F hF => by
    obtain ⟨F', h'⟩ := h.rows b ty m F hF
    exact k.rows b ty m F' h'⟩
theorem MkL.trans {lo hi : Nat} {a b c : World} (h : MkL lo hi a b) (k : MkL lo hi b c) : MkL lo hi a c :=
  ⟨h.toMk.trans k.toMk, fun b ty m F h1 h2 h3 hF => k.big b ty m F h1 h2 h3 (h.big b ty m F h1 h2 h3 hF)⟩
theorem MkL.of_below {lo hi : Nat} {w w' : World} (h : Below w.heap.size w w') : MkL lo hi w w' :=
  ⟨⟨h.os, h.tape, h.output, h.size, fun k hk _ => h.block k hk, fun _ _ _ F hF => ⟨F, rowUp hF h⟩⟩, fun _ _ _ _ _ _ _ hF => rowUp hF h⟩
theorem Mk.set {lo hi : Nat} {w wr : World} (h : Mk lo hi w wr) {b : Nat} (h1 : lo ≤ b) (h2 : b < hi) (i : Nat) (v : Value) : Mk lo hi w (wr.setCell ⟨b, i, none⟩ v) :=
  ⟨h.os, h.tape, h.output, by rw [nblk_setCell]; exact h.size, fun k hk hn => (blk_setCell_other _ _ _ _ (by dsimp only; omega)).trans (h.block k hk hn), fun b' ty m F hF => by
    obtain ⟨F', h'⟩ := h.rows b' ty m F hF
    by_cases e : b' = b
    · subst e; exact ⟨_, h'.set i v⟩
    · exact ⟨F', h'.setOther (a := ⟨b, i, none⟩) e v⟩⟩
theorem MkL.set {lo hi : Nat} {w wr : World} (h : MkL lo hi w wr) {b ty m : Nat} {F : Nat → Value} (hb : wr.rowIs b ty m F) (ht : ty = 58 ∨ ty = 2 ∨ ty = 9) (h1 : lo ≤ b) (h2 : b < hi) (i : Nat) (v : Value) : MkL lo hi w (wr.setCell ⟨b, i, none⟩ v) :=
  ⟨h.toMk.set h1 h2 i v, fun b' ty' m' F' n1 n2 n3 hF => by
    have hF' := h.big b' ty' m' F' n1 n2 n3 hF
    exact hF'.setOther (a := ⟨b, i, none⟩) (row_ne hF' hb (by rcases ht with rfl | rfl | rfl <;> assumption)) v⟩

def CatL.room (lo hi : Nat) (w : World) (c : CatL) : Prop := c.n ≤ 1048576 ∧ (0 < c.n → ∃ b m F, c.a = some ⟨b, 0, none⟩ ∧ lo ≤ b ∧ b < hi ∧ c.n * 2 ≤ m ∧ w.rowIs b 58 m F)
def IntL.room (lo hi : Nat) (w : World) (c : IntL) : Prop := c.n ≤ 1048576 ∧ (0 < c.n → ∃ b m F, c.a = some ⟨b, 0, none⟩ ∧ lo ≤ b ∧ b < hi ∧ c.n ≤ m ∧ w.rowIs b 2 m F)
def StrL.room (lo hi : Nat) (w : World) (c : StrL) : Prop := c.n ≤ 1048576 ∧ (0 < c.n → ∃ b m F, c.a = some ⟨b, 0, none⟩ ∧ lo ≤ b ∧ b < hi ∧ c.n ≤ m ∧ w.rowIs b 9 m F)
theorem CatL.room.mk {lo hi : Nat} {w w' : World} {c : CatL} (h : c.room lo hi w) (k : Mk lo hi w w') : c.room lo hi w' := ⟨h.1, fun hn => by
  obtain ⟨b, m, F, e, h1, h2, h3, h4⟩ := h.2 hn
  obtain ⟨F', h'⟩ := k.rows b 58 m F h4
  exact ⟨b, m, F', e, h1, h2, h3, h'⟩⟩
theorem IntL.room.mk {lo hi : Nat} {w w' : World} {c : IntL} (h : c.room lo hi w) (k : Mk lo hi w w') : c.room lo hi w' := ⟨h.1, fun hn => by
  obtain ⟨b, m, F, e, h1, h2, h3, h4⟩ := h.2 hn
  obtain ⟨F', h'⟩ := k.rows b 2 m F h4
  exact ⟨b, m, F', e, h1, h2, h3, h'⟩⟩
theorem StrL.room.mk {lo hi : Nat} {w w' : World} {c : StrL} (h : c.room lo hi w) (k : Mk lo hi w w') : c.room lo hi w' := ⟨h.1, fun hn => by
  obtain ⟨b, m, F, e, h1, h2, h3, h4⟩ := h.2 hn
  obtain ⟨F', h'⟩ := k.rows b 9 m F h4
  exact ⟨b, m, F', e, h1, h2, h3, h'⟩⟩

set_option maxRecDepth 100000 in
set_option maxHeartbeats 2000000 in
theorem markCatS_k (c : CatL) (lo hi : Nat) (k0 : Int) (w : World) (hr : c.room lo hi w) (h0 : 0 ≤ k0) (h1 : k0 ≤ 1000000000000000) :
    Calls Tryz.prog 37 #[c.val, .int .i64 k0] w fun e w' => e = .returned (.int .i64 (k0 + 2 * c.n)) ∧ MkL lo hi w w' := by
  obtain ⟨a, n, cap, f, g⟩ := c
  obtain ⟨hn, hr⟩ := hr
  simp only at hn hr
  unfold CatL.val
  simp only
  have HR := hid hr
  clear hr
  go_enter Tryz.func37, Tryz.ntmps37
  go_wp2
  go_loopw [1, 5] (fun kk i wr => ∃ j : Nat, j ≤ n ∧ i = .int .i64 j ∧ kk = .int .i64 (k0 + 2 * j) ∧ Hid (MkL lo hi w wr)) (fun _ i _ => n - (intOf i).toNat)
  case atStart => exact ⟨0, Nat.zero_le _, rfl, by simp, hid (MkL.refl _ _ _)⟩
  case round =>
    obtain ⟨j, hj, rfl, rfl, HM⟩ := hrel
    by_cases hlt : j < n
    · obtain ⟨b, m, F, rfl, l1, l2, hm, hR⟩ := HR.out (by omega)
      obtain ⟨F', hR'⟩ := HM.out.rows b 58 m F hR
      have c1 := hR'.cell (i := j * 2) (by omega)
      have c2 := hR'.cell (i := j * 2 + 1) (by omega)
      have f1 := hR'.frozen (j * 2)
      have f2 := hR'.frozen (j * 2 + 1)
      have M1 := hid ((HM.out.set hR' (by omega) l1 l2 (j * 2) (.int .i64 (k0 + 2 * j))).set (hR'.set (j * 2) _) (by omega) l1 l2 (j * 2 + 1) (.int .i64 (k0 + 2 * j + 1)))
      have i1 : (j : Int) < (n : Int) := by omega
      clear hR hR' HM
      go_wp2
      exact ⟨⟨j + 1, by omega, by go_num, by go_num, M1⟩, by simp [intOf]; omega⟩
    · go_wp2
      go_ret
      have e : j = n := by omega
      subst e
      exact ⟨rfl, HM.out⟩

set_option maxRecDepth 100000 in
set_option maxHeartbeats 2000000 in
theorem markInt_k (c : IntL) (lo hi : Nat) (k0 : Int) (w : World) (hr : c.room lo hi w) (h0 : 0 ≤ k0) (h1 : k0 ≤ 1000000000000000) :
    Calls Tryz.prog 38 #[c.val, .int .i64 k0] w fun e w' => e = .returned (.int .i64 (k0 + c.n)) ∧ MkL lo hi w w' := by
  obtain ⟨a, n, cap, f⟩ := c
  obtain ⟨hn, hr⟩ := hr
  simp only at hn hr
  unfold IntL.val
  simp only
  have HR := hid hr
  clear hr
  go_enter Tryz.func38, Tryz.ntmps38
  go_wp2
  go_loopw [1, 5] (fun kk i wr => ∃ j : Nat, j ≤ n ∧ i = .int .i64 j ∧ kk = .int .i64 (k0 + j) ∧ Hid (MkL lo hi w wr)) (fun _ i _ => n - (intOf i).toNat)
  case atStart => exact ⟨0, Nat.zero_le _, rfl, by simp, hid (MkL.refl _ _ _)⟩
  case round =>
    obtain ⟨j, hj, rfl, rfl, HM⟩ := hrel
    by_cases hlt : j < n
    · obtain ⟨b, m, F, rfl, l1, l2, hm, hR⟩ := HR.out (by omega)
      obtain ⟨F', hR'⟩ := HM.out.rows b 2 m F hR
      have c1 := hR'.cell (i := j) (by omega)
      have f1 := hR'.frozen j
      have M1 := hid (HM.out.set hR' (by omega) l1 l2 j (.int .i64 (k0 + j)))
      have i1 : (j : Int) < (n : Int) := by omega
      clear hR hR' HM
      go_wp2
      exact ⟨⟨j + 1, by omega, by go_num, by go_num, M1⟩, by simp [intOf]; omega⟩
    · go_wp2
      go_ret
      have e : j = n := by omega
      subst e
      exact ⟨rfl, HM.out⟩

theorem markText_k (k : Int) (w : World) (h0 : 1 ≤ k) (h1 : k ≤ 10000000000000000) :
    Calls Tryz.prog 39 #[.int .i64 k] w fun e w' => ∃ s, e = .returned (.string s) ∧ Below w.heap.size w w' := by
  obtain ⟨n, rfl⟩ : ∃ n : Nat, k = n := ⟨k.toNat, by omega⟩
  exact (markText_any n w (by omega) (by omega)).mono fun _ _ ⟨he, hb⟩ => ⟨_, he, hb⟩

set_option maxRecDepth 100000 in
set_option maxHeartbeats 2000000 in
theorem markStr_k (c : StrL) (lo hi : Nat) (k0 : Int) (w : World) (hr : c.room lo hi w) (h0 : 1 ≤ k0) (h1 : k0 ≤ 1000000000000000) :
    Calls Tryz.prog 40 #[c.val, .int .i64 k0] w fun e w' => e = .returned (.int .i64 (k0 + c.n)) ∧ MkL lo hi w w' := by
  obtain ⟨a, n, cap, f⟩ := c
  obtain ⟨hn, hr⟩ := hr
  simp only at hn hr
  unfold StrL.val
  simp only
  have HR := hid hr
  clear hr
  go_enter Tryz.func40, Tryz.ntmps40
  go_wp2
  go_loopw [1, 5] (fun kk i wr => ∃ j : Nat, j ≤ n ∧ i = .int .i64 j ∧ kk = .int .i64 (k0 + j) ∧ Hid (MkL lo hi w wr)) (fun _ i _ => n - (intOf i).toNat)
  case atStart => exact ⟨0, Nat.zero_le _, rfl, by simp, hid (MkL.refl _ _ _)⟩
  case round =>
    obtain ⟨j, hj, rfl, rfl, HM⟩ := hrel
    by_cases hlt : j < n
    · obtain ⟨b, m, F, rfl, l1, l2, hm, hR⟩ := HR.out (by omega)
      have i1 : (j : Int) < (n : Int) := by omega
      go_wp2_with fail
      refine (markText_k _ _ (by omega) (by omega)).mono ?_
      rintro e w2 ⟨s, rfl, hb2⟩
      have M2 := hid (HM.out.trans (MkL.of_below (lo := lo) (hi := hi) hb2))
      obtain ⟨F', hR'⟩ := M2.out.rows b 9 m F hR
      have c1 := hR'.cell (i := j) (by omega)
      have f1 := hR'.frozen j
      have M1 := hid (M2.out.set hR' (by omega) l1 l2 j (.string s))
      clear hR hR' HM M2 hb2
      go_wp2
      exact ⟨⟨j + 1, by omega, by go_num, by go_num, M1⟩, by simp [intOf]; omega⟩
    · go_wp2
      go_ret
      have e : j = n := by omega
      subst e
      exact ⟨rfl, HM.out⟩
end Go.Proofs.YtjceaajnemgheaaGreatDoor
namespace Go.Proofs.YtjceaajnemgheaaGreatDoor
open Go Go.RowKit Go.Deep
structure MkT (lo hi : Nat) (w w' : World) : Prop extends Mk lo hi w w' where
  big : ∀ b ty m F, ty ≠ 58 → ty ≠ 2 → ty ≠ 9 → ty ≠ 41 → w.rowIs b ty m F → w'.rowIs b ty m F
theorem MkT.refl (lo hi : Nat) (w : World) : MkT lo hi w w := ⟨Mk.refl lo hi w, fun _ _ _ _ _ _ _ _ h => h⟩
theorem MkT.thenL {lo hi : Nat} {a b c : World} (h : MkT lo hi a b) (k : MkL lo hi b c) : MkT lo hi a c :=
  ⟨h.toMk.trans k.toMk, fun b ty m F h1 h2 h3 h4 hF => k.big b ty m F h1 h2 h3 (h.big b ty m F h1 h2 h3 h4 hF)⟩
theorem MkT.setT {lo hi : Nat} {w wr : World} (h : MkT lo hi w wr) {b m : Nat} {F : Nat → Value} (hb : wr.rowIs b 41 m F) (h1 : lo ≤ b) (h2 : b < hi) (i : Nat) (v : Value) : MkT lo hi w (wr.setCell ⟨b, i, none⟩ v) :=
  ⟨h.toMk.set h1 h2 i v, fun b' ty' m' F' n1 n2 n3 n4 hF => by
    have hF' := h.big b' ty' m' F' n1 n2 n3 n4 hF
    exact hF'.setOther (a := ⟨b, i, none⟩) (row_ne hF' hb n4) v⟩
def SlT (G : Nat → Value) (n : Nat) (T : Nat → ThrV) : Prop := ∀ j, j < n → G (j * 7 + 2) = (T j).c1.val ∧ G (j * 7 + 4) = (T j).c2.val ∧ G (j * 7 + 5) = (T j).own.val
theorem SlT.set {G : Nat → Value} {n : Nat} {T : Nat → ThrV} (h : SlT G n T) (j r : Nat) (hr : r = 0 ∨ r = 1 ∨ r = 3 ∨ r = 6) (v : Value) : SlT (fun q => if q = j * 7 + r then v else G q) n T := fun i hi => by
  obtain ⟨h1, h2, h3⟩ := h i hi
  refine ⟨?_, ?_, ?_⟩
  · dsimp only; rw [if_neg (by omega)]; exact h1
  · dsimp only; rw [if_neg (by omega)]; exact h2
  · dsimp only; rw [if_neg (by omega)]; exact h3
def ThrV.room (lo hi : Nat) (w : World) (t : ThrV) : Prop := t.c1.room lo hi w ∧ t.c2.room lo hi w ∧ t.own.room lo hi w
theorem ThrV.room.mk {lo hi : Nat} {w w' : World} {t : ThrV} (h : t.room lo hi w) (k : Mk lo hi w w') : t.room lo hi w' := ⟨h.1.mk k, h.2.1.mk k, h.2.2.mk k⟩
def ThrRoom (lo hi : Nat) (w : World) (a : Option Addr) (n : Nat) (T : Nat → ThrV) : Prop :=
  n ≤ 1048576 ∧ (0 < n → ∃ b G, a = some ⟨b, 0, none⟩ ∧ lo ≤ b ∧ b < hi ∧ w.rowIs b 41 (n * 7) G ∧ SlT G n T) ∧ ∀ j, j < n → (T j).room lo hi w

set_option maxRecDepth 100000 in
set_option maxHeartbeats 4000000 in
theorem markThreadS_k (a : Option Addr) (n cap : Nat) (T : Nat → ThrV) (lo hi : Nat) (k0 : Int) (w : World) (hr : ThrRoom lo hi w a n T) (h0 : 1 ≤ k0) (h1 : k0 ≤ 100000000000000) :
    Calls Tryz.prog 18 #[.slice a n cap, .int .i64 k0] w fun e w' => ∃ k1 : Int, e = .returned (.int .i64 k1) ∧ k0 ≤ k1 ∧ k1 ≤ k0 + n * 8388608 ∧ MkT lo hi w w' := by
  obtain ⟨hn, hr, hT⟩ := hr
  have HR := hid hr
  have HT := hid hT
  clear hr hT
  by_cases hz : n = 0
  · subst hz
    go_enter Tryz.func18, Tryz.ntmps18
    go_wp2
    go_loop [1, 5] (fun kk i => i = .int .i64 0 ∧ kk = .int .i64 k0) (fun _ _ => 0)
    case atStart => exact ⟨rfl, rfl⟩
    case round =>
      obtain ⟨rfl, rfl⟩ := hrel
      go_wp2
      go_ret
      exact ⟨k0, rfl, by omega, by omega, MkT.refl _ _ _⟩
  obtain ⟨b, G0, rfl, l1, l2, hR0, hS0⟩ := HR.out (by omega)
  have R0 := hid hR0
  have S0 := hid hS0
  clear hR0 hS0 HR
  go_enter Tryz.func18, Tryz.ntmps18
  go_wp2
  go_loopw [1, 5] (fun kk i wr => ∃ (j : Nat) (x : Int), j ≤ n ∧ i = .int .i64 j ∧ kk = .int .i64 x ∧ k0 ≤ x ∧ x ≤ k0 + j * 8388608 ∧ Hid (MkT lo hi w wr) ∧ Hid (∃ G, wr.rowIs b 41 (n * 7) G ∧ SlT G n T)) (fun _ i _ => n - (intOf i).toNat)
  case atStart => exact ⟨0, k0, Nat.zero_le _, rfl, rfl, by omega, by omega, hid (MkT.refl _ _ _), hid ⟨G0, R0.out, S0.out⟩⟩
  case round =>
    obtain ⟨j, x, hj, rfl, rfl, x0, x1, HM, HG⟩ := hrel
    by_cases hlt : j < n
    · obtain ⟨G, hR, hS⟩ := HG.out
      obtain ⟨s1, s2, s3⟩ := hS j hlt
      have i1 : (j : Int) < (n : Int) := by omega
      have z0 := hR.cell (i := j * 7) (by omega)
      have z1 := hR.cell (i := j * 7 + 1) (by omega)
      have z2 := hR.cell (i := j * 7 + 2) (by omega)
      rw [s1] at z2
      have zf := hR.frozen
      have M1 := hid ((HM.out.setT hR l1 l2 (j * 7) (.int .i64 x)).setT (hR.set (j * 7) (.int .i64 x)) l1 l2 (j * 7 + 1) (.int .i64 (x + 1)))
      have R1 := hid ((hR.set (j * 7) (.int .i64 x)).set (j * 7 + 1) (.int .i64 (x + 1)))
      have S1 := hid ((hS.set j 0 (by omega) (.int .i64 x)).set j 1 (by omega) (.int .i64 (x + 1)))
      have C1 := hid (markCatS_k (T j).c1 lo hi (x + 1 + 1) _ ((HT.out j hlt).mk M1.out.toMk).1 (by omega) (by omega))
      have q1 := (HT.out j hlt).1.1
      have q2 := (HT.out j hlt).2.1.1
      have q3 := (HT.out j hlt).2.2.1
      clear hR hS HM HG s1 s2 s3
      go_wp2_with fail
      refine C1.out.mono ?_
      rintro e w2 ⟨rfl, m2⟩
      have M2 := hid (M1.out.thenL m2)
      obtain ⟨G2, R2, S2⟩ : ∃ G2, w2.rowIs b 41 (n * 7) G2 ∧ SlT G2 n T := ⟨_, m2.big _ _ _ _ (by decide) (by decide) (by decide) R1.out, S1.out⟩
      clear z0 z1 z2 zf M1 R1 S1 C1 m2
      generalize hy : x + 1 + 1 + 2 * ((T j).c1.n : Int) = y at *
      have y0 : k0 ≤ y ∧ y ≤ x + 2 + 2097152 := by omega
      clear hy
      obtain ⟨s1, s2, s3⟩ := S2 j hlt
      have z3 := R2.cell (i := j * 7 + 3) (by omega)
      have z4 := R2.cell (i := j * 7 + 4) (by omega)
      rw [s2] at z4
      have zf := R2.frozen
      have M3 := hid (M2.out.setT R2 l1 l2 (j * 7 + 3) (.int .i64 y))
      have R3 := hid (R2.set (j * 7 + 3) (.int .i64 y))
      have S3 := hid (S2.set j 3 (by omega) (.int .i64 y))
      have C3 := hid (markCatS_k (T j).c2 lo hi (y + 1) _ ((HT.out j hlt).mk M3.out.toMk).2.1 (by omega) (by omega))
      clear R2 S2 M2 s1 s2 s3
      go_wp2_with fail
      refine C3.out.mono ?_
      rintro e w4 ⟨rfl, m4⟩
      have M4 := hid (M3.out.thenL m4)
      obtain ⟨G4, R4, S4⟩ : ∃ G4, w4.rowIs b 41 (n * 7) G4 ∧ SlT G4 n T := ⟨_, m4.big _ _ _ _ (by decide) (by decide) (by decide) R3.out, S3.out⟩
      clear z3 z4 zf M3 R3 S3 C3 m4
      generalize hv : y + 1 + 2 * ((T j).c2.n : Int) = v at *
      have v0 : k0 ≤ v ∧ v ≤ x + 3 + 4194304 := by omega
      clear hv
      obtain ⟨s1, s2, s3⟩ := S4 j hlt
      have z5 := R4.cell (i := j * 7 + 5) (by omega)
      rw [s3] at z5
      have C5 := hid (markInt_k (T j).own lo hi v _ ((HT.out j hlt).mk M4.out.toMk).2.2 (by omega) (by omega))
      clear s1 s2 s3
      go_wp2_with fail
      refine C5.out.mono ?_
      rintro e w6 ⟨rfl, m6⟩
      have M6 := hid (M4.out.thenL m6)
      have R6 := m6.big _ _ _ _ (by decide) (by decide) (by decide) R4
      clear z5 M4 R4 C5 m6
      generalize hu : v + ((T j).own.n : Int) = u at *
      have u0 : k0 ≤ u ∧ u ≤ x + 3 + 5242880 := by omega
      clear hu
      have z6 := R6.cell (i := j * 7 + 6) (by omega)
      have zf := R6.frozen
      have M7 := hid (M6.out.setT R6 l1 l2 (j * 7 + 6) (.int .i64 u))
      have R7 : Hid (∃ G, (w6.setCell ⟨b, j * 7 + 6, none⟩ (.int .i64 u)).rowIs b 41 (n * 7) G ∧ SlT G n T) := hid ⟨_, R6.set (j * 7 + 6) (.int .i64 u), S4.set j 6 (by omega) (.int .i64 u)⟩
      clear R6 S4 M6
      go_wp2
      exact ⟨⟨j + 1, u + 1, by omega, by go_num, rfl, by omega, by omega, M7, R7⟩, by simp [intOf]; omega⟩
    · go_wp2
      go_ret
      exact ⟨x, rfl, x0, by have e : j = n := by omega
                            subst e; exact x1, HM.out⟩
end Go.Proofs.YtjceaajnemgheaaGreatDoor
