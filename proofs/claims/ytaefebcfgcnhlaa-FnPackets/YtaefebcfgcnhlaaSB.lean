/- The reader's short texts, and what DrawChecksum draws; sums of texts put together, plainly. -/
import Derived.Test.YtaefebcfgcnhlaaSA
namespace Go.Proofs.Ytaefebcfgcnhlaa
open Go Go.RowKit Go.Deep Go.Maps

set_option maxRecDepth 100000 in
set_option maxHeartbeats 2000000 in
theorem rdText_any (w0 : World) (rb : Nat) (a : Option Addr) (n cap : Nat) (w : World) (h : Rd w0 w rb a n cap) :
    Calls Try.prog 31 #[.pointer (some ⟨rb, 0, none⟩)] w fun e w' => ∃ s : ByteArray, e = .returned (.string s) ∧ s.size ≤ 6 ∧ Rd w0 w' rb a n cap ∧ w.grownBy w' (some rb) := by
  have hrb : rb < w.heap.size := h.lt
  have K0 := (Below.refl _ w).alloc (Nat.le_refl _) (.cells #[.string ⟨#[]⟩, .string ⟨#[97]⟩, .string ⟨#[98]⟩, .string ⟨#[97, 98]⟩, .string ⟨#[115, 101, 99, 114, 101, 116]⟩, .string ⟨#[120, 32, 121]⟩] 9)
  have A0 := Blk.new w (.cells #[.string ⟨#[]⟩, .string ⟨#[97]⟩, .string ⟨#[98]⟩, .string ⟨#[97, 98]⟩, .string ⟨#[115, 101, 99, 114, 101, 116]⟩, .string ⟨#[120, 32, 121]⟩] 9)
  have R0 := h.below K0
  have g0 := World.grownBy_alloc w (.cells #[.string ⟨#[]⟩, .string ⟨#[97]⟩, .string ⟨#[98]⟩, .string ⟨#[97, 98]⟩, .string ⟨#[115, 101, 99, 114, 101, 116]⟩, .string ⟨#[120, 32, 121]⟩] 9) (some rb)
  go_enter Try.func31, Try.ntmps31
  go_wp2_with fail
  refine (below_any w0 rb a n cap 6 _ (by omega) R0).mono ?_
  rintro e w1 ⟨x, rfl, _, hx6, R1, hg1⟩
  have hx : x < 6 := hx6 (by omega)
  have A1 := A0.grown hg1 (by simp; omega)
  have G1 : w.grownBy w1 (some rb) := grown_pair g0 hg1
  unfold Blk at A1
  clear K0 R0 g0 hg1 h A0
  have c0 : w1.cell? ⟨w.heap.size, 0, none⟩ = some (.string ⟨#[]⟩) := by simp [World.cell?, A1]
  have c1 : w1.cell? ⟨w.heap.size, 1, none⟩ = some (.string ⟨#[97]⟩) := by simp [World.cell?, A1]
  have c2 : w1.cell? ⟨w.heap.size, 2, none⟩ = some (.string ⟨#[98]⟩) := by simp [World.cell?, A1]
  have c3 : w1.cell? ⟨w.heap.size, 3, none⟩ = some (.string ⟨#[97, 98]⟩) := by simp [World.cell?, A1]
  have c4 : w1.cell? ⟨w.heap.size, 4, none⟩ = some (.string ⟨#[115, 101, 99, 114, 101, 116]⟩) := by simp [World.cell?, A1]
  have c5 : w1.cell? ⟨w.heap.size, 5, none⟩ = some (.string ⟨#[120, 32, 121]⟩) := by simp [World.cell?, A1]
  clear A1 hx6
  obtain rfl | rfl | rfl | rfl | rfl | rfl : x = 0 ∨ x = 1 ∨ x = 2 ∨ x = 3 ∨ x = 4 ∨ x = 5 := by omega
  all_goals
    go_wp2
    go_ret
    exact ⟨_, rfl, by decide, R1, G1⟩

set_option maxHeartbeats 1000000 in
theorem drawSum_any (a : Option Addr) (n cap : Nat) (w : World) (hn : n ≤ 1048576) (hb : BytesAt w a n) :
    Calls Try.prog 14 #[.slice a n cap] w fun e w' => ∃ s : ByteArray, e = .returned (.string s) ∧ s.size ≤ 14 ∧ Below w.heap.size w w' := by
  have HB := hid hb
  clear hb
  go_enter Try.func14, Try.ntmps14
  go_wp2_with fail
  refine (l1Open_any a n cap _ hn HB.out).mono ?_
  rintro e w1 ⟨rb, rfl, R1⟩
  go_wp2_with fail
  refine (rdText_any _ rb a n cap _ R1).mono ?_
  rintro e w2 ⟨s1, rfl, h1, R2, _⟩
  clear R1
  go_wp2_with fail
  refine (rdBytes_any _ rb a n cap _ R2).mono ?_
  rintro e w3 ⟨s2, rfl, h2, R3, _⟩
  have E3 := R3.E
  clear R2 R3
  have r1 : ¬ 9223372036854775807 < s1.size + s2.size := by omega
  go_wp2
  go_ret
  exact ⟨_, rfl, by rw [ByteArray.size_append]; omega, E3⟩

def psL (l : List UInt8) : Nat := psum (fun k => (l.getD k 0).toNat) l.length
theorem at8_list (s : ByteArray) (k : Nat) : at8 s k = (s.data.toList.getD k 0).toNat := by
  unfold at8
  split
  · rename_i h
    have h' : k < s.data.toList.length := by rw [Array.length_toList]; exact h
    rw [List.getD_eq_getElem?_getD, List.getElem?_eq_getElem h']
    rfl
  · rename_i h
    have h' : ¬ k < s.data.toList.length := by rw [Array.length_toList]; exact h
    rw [List.getD_eq_getElem?_getD, List.getElem?_eq_none (by omega)]
    rfl
theorem cks_list (l : List UInt8) : cks ⟨l.toArray⟩ = 65535 - fold (psL l) := by
  unfold cks psL
  have e : at8 ⟨l.toArray⟩ = fun k => (l.getD k 0).toNat := by funext k; rw [at8_list]
  rw [e]
  rfl
theorem psum_congr {f g : Nat → Nat} (n : Nat) (h : ∀ k, k < n → f k = g k) : psum f n = psum g n := by
  induction n with
  | zero => rfl
  | succ n ih => simp only [psum, ih (fun k hk => h k (by omega)), h n (by omega)]
theorem psum_add (f : Nat → Nat) (n : Nat) (h : n % 2 = 0) (m : Nat) : psum f (n + m) = psum f n + psum (fun k => f (n + k)) m := by
  induction m with
  | zero => simp [psum]
  | succ m ih =>
    rw [← Nat.add_assoc]
    simp only [psum, ih]
    by_cases e : m % 2 = 0
    · rw [if_pos e, if_pos (by omega)]; omega
    · rw [if_neg e, if_neg (by omega)]; omega
theorem psL_append (l m : List UInt8) (h : l.length % 2 = 0) : psL (l ++ m) = psL l + psL m := by
  unfold psL
  rw [List.length_append, psum_add _ _ h]
  congr 1
  · exact psum_congr _ (fun k hk => by simp [List.getElem?_append_left hk])
  · exact psum_congr _ (fun k _ => by simp [List.getElem?_append_right])
theorem psL_zero (l : List UInt8) (h : ¬ l.length % 2 = 0) : psL (l ++ [0]) = psL l := by
  unfold psL
  rw [List.length_append, List.length_singleton, psum, if_neg h]
  have e : psum (fun k => ((l ++ [0]).getD k 0).toNat) l.length = psum (fun k => (l.getD k 0).toNat) l.length := psum_congr _ (fun k hk => by simp [List.getElem?_append_left hk])
  rw [e]
  simp
theorem sum_zero (l : List UInt8) (h : ¬ l.length % 2 = 0) : cks ⟨(l ++ [0]).toArray⟩ = cks ⟨l.toArray⟩ := by
  rw [cks_list, cks_list, psL_zero l h]
theorem sum_two (l : List UInt8) (h : l.length % 2 = 0) (x y : UInt8) (hxy : 256 * x.toNat + y.toNat = cks ⟨l.toArray⟩) : cks ⟨(l ++ [x, y]).toArray⟩ = 0 := by
  rw [cks_list] at hxy ⊢
  have e : psL [x, y] = 256 * x.toNat + y.toNat := by simp [psL, psum]; omega
  rw [psL_append l _ h, e, hxy, ← fold_add]
  have := fold_lt (psL l)
  rw [show fold (psL l) + (65535 - fold (psL l)) = 65535 by omega]
  decide
theorem sum_turn (l : List UInt8) (k : Nat) (h : l.length % 2 = 0) (hk : k % 2 = 0) (hl : k ≤ l.length) : cks ⟨(l.drop k ++ l.take k).toArray⟩ = cks ⟨l.toArray⟩ := by
  rw [cks_list, cks_list, psL_append _ _ (by rw [List.length_drop]; omega)]
  have e := psL_append (l.take k) (l.drop k) (by rw [List.length_take]; omega)
  rw [List.take_append_drop] at e
  rw [e, Nat.add_comm]
end Go.Proofs.Ytaefebcfgcnhlaa
