/- A block comes from one block alone, plainly. -/
import Derived.Test.YtbopcgokmgifhaaCC
namespace Go.Proofs.Ytbopcgokmgifhaa
open Go Go.RowKit

def U32 (x : Int) : Prop := 0 ≤ x ∧ x < 4294967296
theorem bits_u32 (o : BinOp) (x y : Int) : U32 (bits o .u32 x y) := by
  unfold bits U32
  split <;> rw [IntKind.wrap_u32] <;> omega
theorem r29_u32 (x : Int) : U32 (r29 x) := by unfold r29; exact bits_u32 _ _ _
theorem rx_u32 (x y k : Int) : U32 (rx x y k) := by unfold rx; exact bits_u32 _ _ _
theorem ry_u32 (x y k : Int) : U32 (ry x y k) := by unfold ry; exact bits_u32 _ _ _
theorem U32.nat {x : Int} (h : U32 x) : ∃ n : Nat, x = n ∧ n < 4294967296 := ⟨x.toNat, by have := h.1; omega, by have := h.1; have := h.2; omega⟩
theorem r8_val {x : Int} (h : U32 x) : r8 x = x / 256 + x % 256 * 16777216 := by
  obtain ⟨n, rfl, hn⟩ := h.nat
  unfold r8
  have e1 : (n : Int) / 256 = ((n / 256 : Nat) : Int) := by omega
  have e2 : (n : Int) * 16777216 % 4294967296 = ((n % 256 * 16777216 : Nat) : Int) := by omega
  rw [e1, e2, u32_or_nat _ _ (by omega) (by omega), Nat.or_comm, nat_join 24 (n % 256 * 16777216) (n / 256) (by omega) (by omega)]
  omega
theorem r29_val {x : Int} (h : U32 x) : r29 x = x / 536870912 + x % 536870912 * 8 := by
  obtain ⟨n, rfl, hn⟩ := h.nat
  unfold r29
  have e1 : (n : Int) / 536870912 = ((n / 536870912 : Nat) : Int) := by omega
  have e2 : (n : Int) * 8 % 4294967296 = ((n % 536870912 * 8 : Nat) : Int) := by omega
  rw [e1, e2, u32_or_nat _ _ (by omega) (by omega), Nat.or_comm, nat_join 3 (n % 536870912 * 8) (n / 536870912) (by omega) (by omega)]
  omega
theorem xor_inj {a b k : Int} (ha : U32 a) (hb : U32 b) (hk : U32 k) (h : bits .xor .u32 a k = bits .xor .u32 b k) : a = b := by
  obtain ⟨a, rfl, ha'⟩ := ha.nat
  obtain ⟨b, rfl, hb'⟩ := hb.nat
  obtain ⟨k, rfl, hk'⟩ := hk.nat
  rw [u32_xor_nat a k ha' hk', u32_xor_nat b k hb' hk'] at h
  have e : a ^^^ k = b ^^^ k := by omega
  have t := congrArg (· ^^^ k) e
  simp only [Nat.xor_assoc, Nat.xor_self, Nat.xor_zero] at t
  omega
theorem two_parts {q r q' r' m : Int} (h1 : 0 ≤ q) (h2 : q < m) (h3 : 0 ≤ q') (h4 : q' < m) (e : q + r * m = q' + r' * m) : q = q' ∧ r = r' := by
  have hq : (q + r * m) % m = q := by rw [Int.add_mul_emod_self_right, Int.emod_eq_of_lt h1 h2]
  have hq' : (q' + r' * m) % m = q' := by rw [Int.add_mul_emod_self_right, Int.emod_eq_of_lt h3 h4]
  have e1 : q = q' := by rw [← hq, ← hq', e]
  refine ⟨e1, ?_⟩
  subst e1
  have e2 : r * m = r' * m := by omega
  exact Int.eq_of_mul_eq_mul_right (by omega) e2
theorem q29 {y : Int} (h : U32 y) : 0 ≤ y / 536870912 ∧ y / 536870912 < 8 := by unfold U32 at h; omega
theorem q8 {y : Int} (h : U32 y) : 0 ≤ y / 256 ∧ y / 256 < 16777216 := by unfold U32 at h; omega
theorem y_back {y y' : Int} (h1 : U32 y) (h2 : U32 y') (e : y / 536870912 + y % 536870912 * 8 = y' / 536870912 + y' % 536870912 * 8) : y = y' := by
  obtain ⟨a, b⟩ := two_parts (q := y / 536870912) (r := y % 536870912) (q' := y' / 536870912) (r' := y' % 536870912) (m := 8) (q29 h1).1 (q29 h1).2 (q29 h2).1 (q29 h2).2 e
  have t := Int.mul_ediv_add_emod y 536870912
  rw [a, b] at t
  exact t.symm.trans (Int.mul_ediv_add_emod y' 536870912)
theorem x_back {x x' : Int} (h1 : U32 x) (h2 : U32 x') (e : x / 256 + x % 256 * 16777216 = x' / 256 + x' % 256 * 16777216) : x = x' := by
  obtain ⟨a, b⟩ := two_parts (q := x / 256) (r := x % 256) (q' := x' / 256) (r' := x' % 256) (m := 16777216) (q8 h1).1 (q8 h1).2 (q8 h2).1 (q8 h2).2 e
  have t := Int.mul_ediv_add_emod x 256
  rw [a, b] at t
  exact t.symm.trans (Int.mul_ediv_add_emod x' 256)
theorem add_back {a b y : Int} (h1 : U32 a) (h2 : U32 b) (e : (a + y) % 4294967296 = (b + y) % 4294967296) : a = b := by
  unfold U32 at h1 h2
  omega
theorem r8_u32 (x : Int) : U32 (r8 x) := by unfold r8; exact bits_u32 _ _ _
theorem round_inj {x y x' y' k : Int} (hx : U32 x) (hy : U32 y) (hx' : U32 x') (hy' : U32 y') (hk : U32 k) (h1 : rx x y k = rx x' y' k) (h2 : ry x y k = ry x' y' k) : x = x' ∧ y = y' := by
  unfold ry at h2
  rw [h1] at h2
  have e1' : r29 y = r29 y' := xor_inj (r29_u32 y) (r29_u32 y') (rx_u32 x' y' k) h2
  rw [r29_val hy, r29_val hy'] at e1'
  have ey : y = y' := y_back hy hy' e1'
  subst ey
  have e2 := xor_inj (a := (r8 x + y) % 4294967296) (b := (r8 x' + y) % 4294967296) ⟨by omega, by omega⟩ ⟨by omega, by omega⟩ hk h1
  have e3 : r8 x = r8 x' := add_back (r8_u32 x) (r8_u32 x') e2
  rw [r8_val hx, r8_val hx'] at e3
  exact ⟨x_back hx hx' e3, rfl⟩
theorem key_u32 (s : ByteArray) (i : Nat) : U32 (keyAt s i) := by
  cases i with
  | zero => exact ⟨Int.emod_nonneg _ (by decide), Int.emod_lt_of_pos _ (by decide)⟩
  | succ i => exact ry_u32 _ _ _
theorem rnd_u32 (s : ByteArray) {x y : Int} (hx : U32 x) (hy : U32 y) (j : Nat) : U32 (rnd s x y j).1 ∧ U32 (rnd s x y j).2 := by
  cases j with
  | zero => exact ⟨hx, hy⟩
  | succ j => exact ⟨rx_u32 _ _ _, ry_u32 _ _ _⟩
theorem rnd_inj (s : ByteArray) {x y x' y' : Int} (hx : U32 x) (hy : U32 y) (hx' : U32 x') (hy' : U32 y') (j : Nat) (h : rnd s x y j = rnd s x' y' j) : x = x' ∧ y = y' := by
  induction j with
  | zero => exact ⟨congrArg Prod.fst h, congrArg Prod.snd h⟩
  | succ j ih =>
    have a := rnd_u32 s hx hy j
    have b := rnd_u32 s hx' hy' j
    obtain ⟨e1, e2⟩ := round_inj a.1 a.2 b.1 b.2 (key_u32 s j) (congrArg Prod.fst h) (congrArg Prod.snd h)
    exact ih (Prod.ext e1 e2)
theorem joinW_val {p : Int × Int} (h1 : U32 p.1) (h2 : U32 p.2) : joinW p = wrap64 (p.1 * 4294967296 + p.2) := by
  obtain ⟨p, q⟩ := p
  obtain ⟨p, rfl, hp⟩ := U32.nat h1
  obtain ⟨q, rfl, hq⟩ := U32.nat h2
  unfold joinW
  have e1 : IntKind.u64.wrap (IntKind.u64.wrap (p : Int) * 4294967296) = ((p * 4294967296 : Nat) : Int) := by rw [IntKind.wrap_u64, IntKind.wrap_u64]; omega
  have e2 : IntKind.u64.wrap (q : Int) = ((q : Nat) : Int) := by rw [IntKind.wrap_u64]; omega
  simp only
  rw [e1, e2, u64_or_nat _ _ (by omega) (by omega), nat_join 32 (p * 4294967296) q (by omega) (by omega)]
  congr 1
theorem hi_u32 (b : Int) : U32 (hiW b) := ⟨Int.emod_nonneg _ (by decide), Int.emod_lt_of_pos _ (by decide)⟩
theorem lo_u32 (b : Int) : U32 (loW b) := ⟨Int.emod_nonneg _ (by decide), Int.emod_lt_of_pos _ (by decide)⟩
theorem blk_inj (s : ByteArray) {b c : Int} (hb : 0 ≤ b) (hb' : b < 9223372036854775808) (hc : 0 ≤ c) (hc' : c < 9223372036854775808) (h : blkOf s b = blkOf s c) : b = c := by
  unfold blkOf at h
  have a1 := rnd_u32 s (hi_u32 b) (lo_u32 b) 27
  have a2 := rnd_u32 s (hi_u32 c) (lo_u32 c) 27
  rw [joinW_val a1.1 a1.2, joinW_val a2.1 a2.2] at h
  have hp := a1.1; have hq := a1.2; have hp' := a2.1; have hq' := a2.2
  have e : rnd s (hiW b) (loW b) 27 = rnd s (hiW c) (loW c) 27 := by
    generalize rnd s (hiW b) (loW b) 27 = p at *
    generalize rnd s (hiW c) (loW c) 27 = q at *
    obtain ⟨p1, p2⟩ := p
    obtain ⟨q1, q2⟩ := q
    unfold U32 at hp hq hp' hq'
    unfold wrap64 at h
    simp only at h hp hq hp' hq'
    have e1 : p1 = q1 := by omega
    have e2 : p2 = q2 := by omega
    rw [e1, e2]
  obtain ⟨e1, e2⟩ := rnd_inj s (hi_u32 b) (lo_u32 b) (hi_u32 c) (lo_u32 c) 27 e
  unfold hiW at e1
  unfold loW at e2
  omega
end Go.Proofs.Ytbopcgokmgifhaa
