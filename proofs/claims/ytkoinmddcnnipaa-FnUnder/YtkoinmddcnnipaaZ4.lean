/- Texts of data: l3Plain of the model and isData of the program answer plain functions. -/
import Derived.Test.YtkoinmddcnnipaaZ0
import Derived.Lib.ConvBytes
import Derived.Test.YtkoinmddcnnipaaZ3
import Derived.Laws.IdiomStrings
namespace Go.Proofs.Ytkoinmddcnnipaa
open Go.RowKit Go.Deep

def byteOk (b : UInt8) : Bool := decide (32 ≤ b.toNat) && decide (b.toNat ≤ 126)
def plainB (s : ByteArray) (most : Int) : Bool := s.data.toList.all byteOk && decide ((s.size : Int) ≤ most)

theorem plain_at {s : ByteArray} {most : Int} {k : Nat} (h : k < s.size) (hb : byteOk s[k] = false) : plainB s most = false := by
  have : s.data.toList.all byteOk = false := by
    rw [List.all_eq_false]
    exact ⟨s[k], Array.getElem_mem_toList h, by simp [hb]⟩
  simp [plainB, this]
theorem plain_all {s : ByteArray} {most : Int} (h : ∀ (k : Nat) (hk : k < s.size), byteOk s[k] = true) : plainB s most = decide ((s.size : Int) ≤ most) := by
  have : s.data.toList.all byteOk = true := by
    rw [List.all_eq_true]
    intro b hb
    obtain ⟨k, hk, rfl⟩ := List.getElem_of_mem hb
    have hk' : k < s.size := by simpa using hk
    have := h k hk'
    have e : s[k] = s.data.toList[k] := rfl
    rw [e] at this
    exact this
  simp [plainB, this]
theorem byteOk_lo {b : UInt8} (h : (b.toNat : Int) < 32) : byteOk b = false := by
  have : ¬ 32 ≤ b.toNat := by omega
  simp [byteOk, this]
theorem byteOk_hi {b : UInt8} (h : 126 < (b.toNat : Int)) : byteOk b = false := by
  have : ¬ b.toNat ≤ 126 := by omega
  simp [byteOk, this]
theorem byteOk_yes {b : UInt8} (h1 : 32 ≤ (b.toNat : Int)) (h2 : (b.toNat : Int) ≤ 126) : byteOk b = true := by
  have e1 : 32 ≤ b.toNat := by omega
  have e2 : b.toNat ≤ 126 := by omega
  simp [byteOk, e1, e2]

set_option maxHeartbeats 1000000 in
theorem l3Plain_any (s : ByteArray) (most : Int) (w : World) (hn : s.size ≤ maxLen) :
    Calls Try.prog 51 #[.string s, .int .i64 most] w fun e w' => e = .returned (.bool (plainB s most)) ∧ w' = w := by
  unfold maxLen at hn
  go_enter Try.func51, Try.ntmps51
  go_wp2
  go_loop [5] (fun i => ∃ k : Nat, k ≤ s.size ∧ i = .int .i64 k ∧ (∀ (j : Nat) (hj : j < s.size), j < k → byteOk s[j] = true)) (fun i => s.size - (intOf i).toNat)
  case atStart => exact ⟨0, Nat.zero_le _, rfl, fun j _ hj => by omega⟩
  case round =>
    obtain ⟨k, hk, rfl, hall⟩ := hrel
    have HA : Hid (∀ (j : Nat) (hj : j < s.size), j < k → byteOk s[j] = true) := hall
    clear hall
    by_cases hlt : k < s.size
    · have hki : (k : Int) < (s.size : Int) := by omega
      go_wp2
      · go_ret
        rename_i h1 h2 _
        refine ⟨ret_bool (plain_at hlt ?_).symm, rfl⟩
        rcases h2 with h2 | h2
        · exact byteOk_lo h2
        · exact byteOk_hi h2
      · rename_i h1 h2
        go_round
        case rel =>
          refine ⟨k + 1, by omega, by go_num, fun j hj hjk => ?_⟩
          by_cases e : j = k
          · subst e; exact byteOk_yes h2.1 h2.2
          · exact HA.out j hj (by omega)
        case measure => simp [intOf]; omega
      · go_ret
        rename_i h1
        exact ⟨ret_bool (plain_at hlt (byteOk_lo h1)).symm, rfl⟩
    · have hki : ¬ (k : Int) < (s.size : Int) := by omega
      go_wp2
      go_ret
      exact ⟨ret_bool (plain_all (fun j hj => HA.out j hj (by omega))).symm, rfl⟩

theorem bytesWorld_below (w : World) (e : TypeId) (s : ByteArray) : Below w.heap.size w (Lib.bytesWorld w e s) :=
  ⟨rfl, rfl, rfl, by rw [Lib.bytesWorld_size]; omega, fun k hk => Lib.bytesWorld_at_old w e s k hk⟩

set_option maxHeartbeats 1000000 in
theorem isData_any (s : ByteArray) (w : World) (hn : s.size ≤ maxLen) :
    Calls Try.prog 61 #[.string s] w fun e w' => e = .returned (.bool (plainB s 40)) ∧ Below w.heap.size w w' := by
  unfold maxLen at hn
  by_cases h40 : 40 < s.size
  · have h40' : (40 : Int) < (s.size : Int) := by omega
    go_enter Try.func61, Try.ntmps61
    go_wp2
    go_ret
    have : ¬ (s.size : Int) ≤ 40 := by omega
    exact ⟨ret_bool (by simp [plainB, this]), Below.refl _ _⟩
  · have h40' : (s.size : Int) ≤ 40 := by omega
    have kc := fun (w : World) (s : ByteArray) => Lib.run_convert_string_bytes (P := Try.prog) w 9 22 5 s Try.underlying9 Try.underlying22 Try.underlying5
    go_enter Try.func61, Try.ntmps61
    go_wp2_with fail
    have hB := bytesWorld_below w 5 s
    have hcell : ∀ (j : Nat) (hj : j < s.size), (Lib.bytesWorld w 5 s).cell? ⟨w.heap.size, j, none⟩ = some (.int .u8 (s[j].toNat : Int)) := fun j hj => by
      rw [Lib.bytesWorld_cell w 5 s j hj]
      have e : s.data.toList.getD j 0 = s[j] := by
        have hj' : j < s.data.toList.length := by simpa using hj
        rw [List.getD_eq_getElem?_getD, List.getElem?_eq_getElem hj']
        rfl
      rw [e]
    generalize Lib.bytesWorld w 5 s = W at *
    generalize grownCap w s.size 0 5 = cp at *
    go_loop [11] (fun i => ∃ k : Nat, k ≤ s.size ∧ i = .int .i64 k ∧ (∀ (j : Nat) (hj : j < s.size), j < k → byteOk s[j] = true)) (fun i => s.size - (intOf i).toNat)
    case atStart => exact ⟨0, Nat.zero_le _, rfl, fun j _ hj => by omega⟩
    case round =>
      obtain ⟨k, hk, rfl, hall⟩ := hrel
      have HA : Hid (∀ (j : Nat) (hj : j < s.size), j < k → byteOk s[j] = true) := hall
      clear hall
      by_cases hlt : k < s.size
      · have hki : (k : Int) < (s.size : Int) := by omega
        have hc := hcell k hlt
        clear hcell
        go_wp2
        · go_ret
          rename_i h1 h2 _
          refine ⟨ret_bool (plain_at hlt ?_).symm, hB⟩
          rcases h2 with h2 | h2
          · exact byteOk_lo h2
          · exact byteOk_hi h2
        · rename_i h1 h2
          go_round
          case rel =>
            refine ⟨k + 1, by omega, by go_num, fun j hj hjk => ?_⟩
            by_cases e : j = k
            · subst e; exact byteOk_yes h2.1 h2.2
            · exact HA.out j hj (by omega)
          case measure => simp [intOf]; omega
        · go_ret
          rename_i h1
          exact ⟨ret_bool (plain_at hlt (byteOk_lo h1)).symm, hB⟩
      · have hki : ¬ (k : Int) < (s.size : Int) := by omega
        clear hcell
        go_wp2
        go_ret
        exact ⟨ret_bool (by rw [plain_all (fun j hj => HA.out j hj (by omega))]; simpa using h40'), hB⟩
end Go.Proofs.Ytkoinmddcnnipaa
namespace Go.Proofs.Ytkoinmddcnnipaa
open Go.RowKit Go.Deep

set_option maxRecDepth 100000 in
theorem one_byte (w : World) (x : Int) (h0 : 0 ≤ x) (h1 : x < 256) :
    (convert 22 9 (Value.slice (some ⟨w.heap.size, 0, none⟩) 1 1)).run Try.prog (w.alloc (.cells #[.int .u8 x] 5)) = .ok (.string ⟨#[UInt8.ofNat x.toNat]⟩) (w.alloc (.cells #[.int .u8 x] 5)) := by
  refine run_convert_bytes_back (P := Try.prog) (w.alloc (.cells #[.int .u8 x] 5)) 22 9 5 ⟨w.heap.size, 0, none⟩ 1 [UInt8.ofNat x.toNat] Try.underlying22 Try.underlying5 Try.underlying9 fun j hj => ?_
  obtain rfl : j = 0 := by simpa using hj
  have e : (((UInt8.ofNat x.toNat).toNat : Nat) : Int) = x := by
    rw [UInt8.toNat_ofNat_of_lt' (by simp [UInt8.size]; omega)]
    omega
  simp only [List.getElem_cons_zero, e]
  simp [Addr.add]
theorem bytes_cons (b : UInt8) (l : List UInt8) : ((⟨#[b]⟩ : ByteArray) ++ (⟨l.toArray⟩ : ByteArray)) = ⟨(b :: l).toArray⟩ := by
  apply ByteArray.ext
  apply Array.ext'
  simp
def digs (n : Nat) : List UInt8 := if _h : n = 0 then [] else digs (n / 10) ++ [UInt8.ofNat (48 + n % 10)]
termination_by n
decreasing_by omega
theorem digs_zero : digs 0 = [] := by rw [digs, dif_pos rfl]
theorem digs_pos {n : Nat} (h : ¬ n = 0) : digs n = digs (n / 10) ++ [UInt8.ofNat (48 + n % 10)] := by rw [digs, dif_neg h]
theorem digs_len (n : Nat) : (digs n).length ≤ n := by
  induction n using Nat.strongRecOn with
  | _ n ih =>
    by_cases h : n = 0
    · subst h; rw [digs_zero]; simp
    · rw [digs_pos h, List.length_append]
      have := ih (n / 10) (by omega)
      simp
      omega

end Go.Proofs.Ytkoinmddcnnipaa
namespace Go.Proofs.Ytkoinmddcnnipaa
open Go Go.RowKit Go.Deep
structure Mk (lo hi : Nat) (w w' : World) : Prop where
  os : w'.os = w.os
  tape : w'.tape = w.tape
  output : w'.output = w.output
  size : w.heap.size ≤ w'.heap.size
  block : ∀ k, k < w.heap.size → (k < lo ∨ hi ≤ k) → w'.heap[k]? = w.heap[k]?
  rows : ∀ b ty m F, w.rowIs b ty m F → ∃ F', w'.rowIs b ty m F'
structure MkL (lo hi : Nat) (w w' : World) : Prop extends Mk lo hi w w' where
  big : ∀ b ty m F, ty ≠ 90 → ty ≠ 2 → ty ≠ 9 → w.rowIs b ty m F → w'.rowIs b ty m F

theorem Mk.refl (lo hi : Nat) (w : World) : Mk lo hi w w := ⟨rfl, rfl, rfl, Nat.le_refl _, fun _ _ _ => rfl, fun _ _ _ F h => ⟨F, h⟩⟩
theorem MkL.refl (lo hi : Nat) (w : World) : MkL lo hi w w := ⟨Mk.refl lo hi w, fun _ _ _ _ _ _ _ h => h⟩
theorem Mk.trans {lo hi : Nat} {a b c : World} (h : Mk lo hi a b) (k : Mk lo hi b c) : Mk lo hi a c :=
  ⟨k.os.trans h.os, k.tape.trans h.tape, k.output.trans h.output, Nat.le_trans h.size k.size, fun j hj hn => (k.block j (Nat.lt_of_lt_of_le hj h.size) hn).trans (h.block j hj hn), fun b ty m F hF => by
    obtain ⟨F', h'⟩ := h.rows b ty m F hF
    exact k.rows b ty m F' h'⟩
theorem MkL.trans {lo hi : Nat} {a b c : World} (h : MkL lo hi a b) (k : MkL lo hi b c) : MkL lo hi a c :=
  ⟨h.toMk.trans k.toMk, fun b ty m F h1 h2 h3 hF => k.big b ty m F h1 h2 h3 (h.big b ty m F h1 h2 h3 hF)⟩
theorem MkL.of_below {lo hi : Nat} {w w' : World} (h : Below w.heap.size w w') : MkL lo hi w w' :=
  ⟨⟨h.os, h.tape, h.output, h.size, fun k hk _ => h.block k hk, fun _ _ _ F hF => ⟨F, rowUp hF h⟩⟩, fun _ _ _ _ _ _ _ hF => rowUp hF h⟩
theorem Mk.set {lo hi : Nat} {w wr : World} (h : Mk lo hi w wr) {b : Nat} (h1 : lo ≤ b) (h2 : b < hi) (i : Nat) (v : Value) : Mk lo hi w (wr.setCell ⟨b, i, none⟩ v) :=
  ⟨h.os, h.tape, h.output, by rw [nblk_setCell]; exact h.size, fun k hk hn => (blk_setCell_other _ _ _ _ (by dsimp only; omega)).trans (h.block k hk hn), fun b' ty m F hF => by
    obtain ⟨F', h'⟩ := h.rows b' ty m F hF
    by_cases e : b' = b
    · subst e; exact ⟨_, h'.set i v⟩
    · exact ⟨F', h'.setOther (a := ⟨b, i, none⟩) e v⟩⟩
theorem MkL.set {lo hi : Nat} {w wr : World} (h : MkL lo hi w wr) {b ty m : Nat} {F : Nat → Value} (hb : wr.rowIs b ty m F) (ht : ty = 90 ∨ ty = 2 ∨ ty = 9) (h1 : lo ≤ b) (h2 : b < hi) (i : Nat) (v : Value) : MkL lo hi w (wr.setCell ⟨b, i, none⟩ v) :=
  ⟨h.toMk.set h1 h2 i v, fun b' ty' m' F' n1 n2 n3 hF => by
    have hF' := h.big b' ty' m' F' n1 n2 n3 hF
    exact hF'.setOther (a := ⟨b, i, none⟩) (row_ne hF' hb (by rcases ht with rfl | rfl | rfl <;> assumption)) v⟩

def CatL.room (lo hi : Nat) (w : World) (c : CatL) : Prop := c.n ≤ 1048576 ∧ (0 < c.n → ∃ b m F, c.a = some ⟨b, 0, none⟩ ∧ lo ≤ b ∧ b < hi ∧ c.n * 2 ≤ m ∧ w.rowIs b 90 m F)
def IntL.room (lo hi : Nat) (w : World) (c : IntL) : Prop := c.n ≤ 1048576 ∧ (0 < c.n → ∃ b m F, c.a = some ⟨b, 0, none⟩ ∧ lo ≤ b ∧ b < hi ∧ c.n ≤ m ∧ w.rowIs b 2 m F)
def StrL.room (lo hi : Nat) (w : World) (c : StrL) : Prop := c.n ≤ 1048576 ∧ (0 < c.n → ∃ b m F, c.a = some ⟨b, 0, none⟩ ∧ lo ≤ b ∧ b < hi ∧ c.n ≤ m ∧ w.rowIs b 9 m F)
theorem CatL.room.mk {lo hi : Nat} {w w' : World} {c : CatL} (h : c.room lo hi w) (k : Mk lo hi w w') : c.room lo hi w' := ⟨h.1, fun hn => by
  obtain ⟨b, m, F, e, h1, h2, h3, h4⟩ := h.2 hn
  obtain ⟨F', h'⟩ := k.rows b 90 m F h4
  exact ⟨b, m, F', e, h1, h2, h3, h'⟩⟩
theorem IntL.room.mk {lo hi : Nat} {w w' : World} {c : IntL} (h : c.room lo hi w) (k : Mk lo hi w w') : c.room lo hi w' := ⟨h.1, fun hn => by
  obtain ⟨b, m, F, e, h1, h2, h3, h4⟩ := h.2 hn
  obtain ⟨F', h'⟩ := k.rows b 2 m F h4
  exact ⟨b, m, F', e, h1, h2, h3, h'⟩⟩
theorem StrL.room.mk {lo hi : Nat} {w w' : World} {c : StrL} (h : c.room lo hi w) (k : Mk lo hi w w') : c.room lo hi w' := ⟨h.1, fun hn => by
  obtain ⟨b, m, F, e, h1, h2, h3, h4⟩ := h.2 hn
  obtain ⟨F', h'⟩ := k.rows b 9 m F h4
  exact ⟨b, m, F', e, h1, h2, h3, h'⟩⟩

end Go.Proofs.Ytkoinmddcnnipaa
namespace Go.Proofs.Ytkoinmddcnnipaa
open Go Go.RowKit Go.Deep
structure MkT (lo hi : Nat) (w w' : World) : Prop extends Mk lo hi w w' where
  big : ∀ b ty m F, ty ≠ 90 → ty ≠ 2 → ty ≠ 9 → ty ≠ 62 → w.rowIs b ty m F → w'.rowIs b ty m F
theorem MkT.refl (lo hi : Nat) (w : World) : MkT lo hi w w := ⟨Mk.refl lo hi w, fun _ _ _ _ _ _ _ _ h => h⟩
theorem MkT.thenL {lo hi : Nat} {a b c : World} (h : MkT lo hi a b) (k : MkL lo hi b c) : MkT lo hi a c :=
  ⟨h.toMk.trans k.toMk, fun b ty m F h1 h2 h3 h4 hF => k.big b ty m F h1 h2 h3 (h.big b ty m F h1 h2 h3 h4 hF)⟩
theorem MkT.setT {lo hi : Nat} {w wr : World} (h : MkT lo hi w wr) {b m : Nat} {F : Nat → Value} (hb : wr.rowIs b 62 m F) (h1 : lo ≤ b) (h2 : b < hi) (i : Nat) (v : Value) : MkT lo hi w (wr.setCell ⟨b, i, none⟩ v) :=
  ⟨h.toMk.set h1 h2 i v, fun b' ty' m' F' n1 n2 n3 n4 hF => by
    have hF' := h.big b' ty' m' F' n1 n2 n3 n4 hF
    exact hF'.setOther (a := ⟨b, i, none⟩) (row_ne hF' hb n4) v⟩
def SlT (G : Nat → Value) (n : Nat) (T : Nat → ThrV) : Prop := ∀ j, j < n → G (j * 7 + 2) = (T j).c1.val ∧ G (j * 7 + 4) = (T j).c2.val ∧ G (j * 7 + 5) = (T j).own.val
theorem SlT.set {G : Nat → Value} {n : Nat} {T : Nat → ThrV} (h : SlT G n T) (j r : Nat) (hr : r = 0 ∨ r = 1 ∨ r = 3 ∨ r = 6) (v : Value) : SlT (fun q => if q = j * 7 + r then v else G q) n T := fun i hi => by
  obtain ⟨h1, h2, h3⟩ := h i hi
  refine ⟨?_, ?_, ?_⟩
  · dsimp only; rw [if_neg (by omega)]; exact h1
  · dsimp only; rw [if_neg (by omega)]; exact h2
  · dsimp only; rw [if_neg (by omega)]; exact h3
def ThrV.room (lo hi : Nat) (w : World) (t : ThrV) : Prop := t.c1.room lo hi w ∧ t.c2.room lo hi w ∧ t.own.room lo hi w
theorem ThrV.room.mk {lo hi : Nat} {w w' : World} {t : ThrV} (h : t.room lo hi w) (k : Mk lo hi w w') : t.room lo hi w' := ⟨h.1.mk k, h.2.1.mk k, h.2.2.mk k⟩
def ThrRoom (lo hi : Nat) (w : World) (a : Option Addr) (n : Nat) (T : Nat → ThrV) : Prop :=
  n ≤ 1048576 ∧ (0 < n → ∃ b G, a = some ⟨b, 0, none⟩ ∧ lo ≤ b ∧ b < hi ∧ w.rowIs b 62 (n * 7) G ∧ SlT G n T) ∧ ∀ j, j < n → (T j).room lo hi w

end Go.Proofs.Ytkoinmddcnnipaa
namespace Go.Proofs.Ytkoinmddcnnipaa
open Go Go.RowKit Go.Deep

def SlO (G : Nat → Value) (n : Nat) (T : Nat → ObjV) : Prop := ∀ j, j < n → G (j * 10 + 4) = (T j).c1.val ∧ G (j * 10 + 6) = (T j).items.val ∧ G (j * 10 + 7) = (T j).own.val ∧ G (j * 10 + 9) = (T j).c2.val
theorem SlO.set {G : Nat → Value} {n : Nat} {T : Nat → ObjV} (h : SlO G n T) (j r : Nat) (hr : r = 0 ∨ r = 1 ∨ r = 2 ∨ r = 3 ∨ r = 5 ∨ r = 8) (v : Value) : SlO (fun q => if q = j * 10 + r then v else G q) n T := fun i hi => by
  obtain ⟨h1, h2, h3, h4⟩ := h i hi
  refine ⟨?_, ?_, ?_, ?_⟩
  · dsimp only; rw [if_neg (by omega)]; exact h1
  · dsimp only; rw [if_neg (by omega)]; exact h2
  · dsimp only; rw [if_neg (by omega)]; exact h3
  · dsimp only; rw [if_neg (by omega)]; exact h4
def ObjV.room (lo hi : Nat) (w : World) (t : ObjV) : Prop := t.c1.room lo hi w ∧ t.items.room lo hi w ∧ t.own.room lo hi w ∧ t.c2.room lo hi w
theorem ObjV.room.mk {lo hi : Nat} {w w' : World} {t : ObjV} (h : t.room lo hi w) (k : Mk lo hi w w') : t.room lo hi w' := ⟨h.1.mk k, h.2.1.mk k, h.2.2.1.mk k, h.2.2.2.mk k⟩
def ObjRoom (lo hi : Nat) (w : World) (a : Option Addr) (n : Nat) (T : Nat → ObjV) : Prop :=
  n ≤ 1048576 ∧ (0 < n → ∃ b G, a = some ⟨b, 0, none⟩ ∧ lo ≤ b ∧ b < hi ∧ w.rowIs b 38 (n * 10) G ∧ SlO G n T) ∧ ∀ j, j < n → (T j).room lo hi w

def KerV.room (lo hi : Nat) (w : World) (k : KerV) : Prop := ThrRoom lo hi w k.ta k.tn k.T ∧ ObjRoom lo hi w k.oa k.on k.O
theorem ThrRoom.mkL {lo hi : Nat} {w w' : World} {a : Option Addr} {n : Nat} {T : Nat → ThrV} (h : ThrRoom lo hi w a n T) (k : MkL lo hi w w') : ThrRoom lo hi w' a n T :=
  ⟨h.1, fun hn => by
    obtain ⟨b, G, e, h1, h2, h3, h4⟩ := h.2.1 hn
    exact ⟨b, G, e, h1, h2, k.big _ _ _ _ (by decide) (by decide) (by decide) h3, h4⟩, fun j hj => (h.2.2 j hj).mk k.toMk⟩
theorem ObjRoom.mkL {lo hi : Nat} {w w' : World} {a : Option Addr} {n : Nat} {T : Nat → ObjV} (h : ObjRoom lo hi w a n T) (k : MkL lo hi w w') : ObjRoom lo hi w' a n T :=
  ⟨h.1, fun hn => by
    obtain ⟨b, G, e, h1, h2, h3, h4⟩ := h.2.1 hn
    exact ⟨b, G, e, h1, h2, k.big _ _ _ _ (by decide) (by decide) (by decide) h3, h4⟩, fun j hj => (h.2.2 j hj).mk k.toMk⟩
theorem ObjRoom.mkT {lo hi : Nat} {w w' : World} {a : Option Addr} {n : Nat} {T : Nat → ObjV} (h : ObjRoom lo hi w a n T) (k : MkT lo hi w w') : ObjRoom lo hi w' a n T :=
  ⟨h.1, fun hn => by
    obtain ⟨b, G, e, h1, h2, h3, h4⟩ := h.2.1 hn
    exact ⟨b, G, e, h1, h2, k.big _ _ _ _ (by decide) (by decide) (by decide) (by decide) h3, h4⟩, fun j hj => (h.2.2 j hj).mk k.toMk⟩
theorem CatL.row.room {B : Nat} {w : World} {c : CatL} (h : c.row w) (hn : c.n ≤ 1048576) (hs : ∀ p, c.a = some p → B ≤ p.block) : c.room B w.heap.size w := ⟨hn, fun _ => by
  obtain ⟨b, e, hr⟩ := h
  exact ⟨b, _, _, e, hs _ e, hr.lt, Nat.le_refl _, hr⟩⟩
theorem IntL.row.room {B : Nat} {w : World} {c : IntL} (h : c.row w) (hn : c.n ≤ 1048576) (hs : ∀ p, c.a = some p → B ≤ p.block) : c.room B w.heap.size w := ⟨hn, fun _ => by
  obtain ⟨b, e, hr⟩ := h
  exact ⟨b, _, _, e, hs _ e, hr.lt, Nat.le_refl _, hr⟩⟩
theorem StrL.row.room {B : Nat} {w : World} {c : StrL} (h : c.row w) (hn : c.n ≤ 1048576) (hs : ∀ p, c.a = some p → B ≤ p.block) : c.room B w.heap.size w := ⟨hn, fun _ => by
  obtain ⟨b, e, hr⟩ := h
  exact ⟨b, _, _, e, hs _ e, hr.lt, Nat.le_refl _, hr⟩⟩
theorem KerV.row.room {B : Nat} {w : World} {k : KerV} (h : k.row w) (hs : k.small) (hn : k.since B) : k.room B w.heap.size w := by
  obtain ⟨⟨tb, G, e1, hG, hT⟩, ⟨ob, G', e2, hG', hO⟩⟩ := h
  obtain ⟨n1, n2, n3, n4⟩ := hn
  obtain ⟨⟨s1, s2⟩, ⟨s3, s4⟩⟩ := hs
  refine ⟨⟨s1, fun _ => ⟨tb, G, e1, n1 _ e1, hG.lt, hG, fun j hj => ?_⟩, fun j hj => ?_⟩, ⟨s3, fun _ => ⟨ob, G', e2, n3 _ e2, hG'.lt, hG', fun j hj => ?_⟩, fun j hj => ?_⟩⟩
  · have g := (hT j hj).1
    exact ⟨g.g2, g.g4, g.g5⟩
  · obtain ⟨_, r1, r2, r3⟩ := hT j hj
    obtain ⟨z1, z2, z3⟩ := s2 j hj
    obtain ⟨y1, y2, y3⟩ := n2 j hj
    exact ⟨r1.room z1 y1, r2.room z2 y2, r3.room z3 y3⟩
  · have g := (hO j hj).1
    exact ⟨g.g4, g.g6, g.g7, g.g9⟩
  · obtain ⟨_, r1, r2, r3, r4⟩ := hO j hj
    obtain ⟨z1, _, z2, z3, z4⟩ := s4 j hj
    obtain ⟨y1, y2, y3, y4⟩ := n4 j hj
    exact ⟨r1.room z1 y1, r2.room z2.1 y2, r3.room z3 y3, r4.room z4 y4⟩

end Go.Proofs.Ytkoinmddcnnipaa
