/- Texts laid one over the other: l9Xor of the model, xored of the program. -/
import Derived.Test.YtbopcgokmgifhaaDoorNBW
import Derived.Test.YtbopcgokmgifhaaDoorNBX
import Derived.Deep.RegionLaw
namespace Go.Proofs.YtbopcgokmgifhaaDoor
open Go Go.RowKit Go.Deep Go.Maps
open Go.WideShapes (add_plain)

/-- the first k bytes of both, one over the other -/
def xl (a b : ByteArray) : Nat → List UInt8
  | 0 => []
  | k + 1 => xl a b k ++ [UInt8.ofNat (at8 a k ^^^ at8 b k)]
theorem xl_len (a b : ByteArray) (k : Nat) : (xl a b k).length = k := by induction k with
  | zero => rfl
  | succ k ih => simp [xl, ih]
theorem xl_at (a b : ByteArray) (k j : Nat) (h : j < k) : (xl a b k)[j]? = some (UInt8.ofNat (at8 a j ^^^ at8 b j)) := by induction k with
  | zero => omega
  | succ k ih =>
    rw [xl]
    by_cases e : j = k
    · subst e; rw [List.getElem?_append_right (by rw [xl_len]; omega), xl_len]; simp
    · rw [List.getElem?_append_left (by rw [xl_len]; omega)]; exact ih (by omega)
theorem byte_xor (a b : ByteArray) (k : Nat) (ha : k < a.size) (hb : k < b.size) : bits .xor .u8 ((a[k].toNat : Nat) : Int) ((b[k].toNat : Nat) : Int) = ((UInt8.ofNat (at8 a k ^^^ at8 b k)).toNat : Nat) := by
  have h1 := UInt8.toNat_lt a[k]
  have h2 := UInt8.toNat_lt b[k]
  rw [u8_xor_nat _ _ (by omega) (by omega), at8_eq ha, at8_eq hb]
  rw [UInt8.toNat_ofNat_of_lt' (Nat.xor_lt_two_pow (n := 8) (by omega) (by omega))]

theorem step_append_byte {ops : Array Oper} {o : Oper} {a : Act} {w : World} {K : Act → World → Prop} {Q : Exit → Act → World → Prop} {E : Prop} (hgd : o.guard = none) (s x : Operand)
    (ho : o.op = .call { callee := .builtin .append, args := #[s, x], argTypes := #[22, 22] })
    (B : Nat) (v : Value) (l : List UInt8) (hs : a.eval s = v) (hown : OwnB w B v l) (ad : Option Addr) (c : Nat) (b : UInt8) (hx : a.eval x = .slice ad 1 c) (hc : LiesC w ad 1 [.int .u8 b.toNat])
    (hm : l.length ≤ 1000) (hB : B ≤ w.heap.size)
    (h : ∀ g c' w', OwnB w' B (.slice (some ⟨g, 0, none⟩) (l ++ [b]).length c') (l ++ [b]) → w.grownBy w' v.ownBlock → K (a.put o.dst (.slice (some ⟨g, 0, none⟩) (l ++ [b]).length c')) w') :
    if Region.wanted o (yielded ops a.tmps) = true then Oper.wp Tryd.prog o a w K Q else E := by
  have hw : Region.wanted o (yielded ops a.tmps) = true := by simp [Region.wanted, hgd]
  rw [if_pos hw]
  refine wp_append_gen Tryd.underlying22 Tryd.info5 rfl (by omega) w s x ho B v l.length _ hs hown ad 1 c [.int .u8 b.toNat] hx (by simp) hc (fun u hu => by simp at hu; subst hu; rfl) (by omega) (by omega) hB fun a' c' w' h2 h3 _ => ?_
  have e1 : bcells l ++ [Value.int .u8 b.toNat] = bcells (l ++ [b]) := by simp [bcells]
  have e2 : l.length + 1 = (l ++ [b]).length := by simp
  rw [e1] at h2
  obtain ⟨g, cap, hv, _, _⟩ := World.ownsRow.form h2 (by omega)
  simp only [Value.slice.injEq] at hv
  obtain ⟨rfl, _, _⟩ := hv
  rw [e2] at h2 ⊢
  exact h g c' w' h2 h3

set_option maxRecDepth 100000 in
set_option maxHeartbeats 2000000 in
theorem l9Xor_any (a b : ByteArray) (w : World) (hab : a.size ≤ b.size) (hm : a.size ≤ 1000) :
    Calls Tryd.prog 23 #[.string a, .string b] w fun e w' => e = .returned (.string ⟨(xl a b a.size).toArray⟩) ∧ Below w.heap.size w w' := by
  have K0 := (Below.refl _ w).alloc (Nat.le_refl _) (.cells #[] 5)
  have O0 : OwnB (w.alloc (.cells #[] 5)) w.heap.size (.slice (some ⟨w.heap.size, 0, none⟩) 0 0) [] := World.ownsRow_made w #[] 0 (Nat.le_refl _) (Nat.zero_le _) rfl
  go_enter Tryd.func23, Tryd.ntmps23
  go_wp2_with fail
  go_loopw [5, 6] (fun v i wr => ∃ (k : Nat) (l : List UInt8) (g c : Nat), k ≤ a.size ∧ i = .int .i64 k ∧ v = .slice (some ⟨g, 0, none⟩) l.length c ∧ OwnB wr w.heap.size (.slice (some ⟨g, 0, none⟩) l.length c) l ∧ Below w.heap.size w wr ∧ l = xl a b k) (fun _ i _ => a.size - (intOf i).toNat)
  case atStart => exact ⟨0, [], w.heap.size, 0, by omega, rfl, rfl, O0, K0, rfl⟩
  case round =>
    obtain ⟨k, l, g, c, hk, rfl, rfl, O, hB, he⟩ := hrel
    have HE := hid he
    have lm : l.length ≤ 1000 := by rw [he, xl_len]; omega
    clear K0 O0 he
    by_cases h0 : k < a.size
    · have h0' : (k : Int) < (a.size : Int) := by omega
      have h1 : k < b.size := by omega
      have h1' : (k : Int) < (b.size : Int) := by omega
      have hx := byte_xor a b k h0 h1
      have HN : Hid (l ++ [UInt8.ofNat (at8 a k ^^^ at8 b k)] = xl a b (k + 1)) := by show _ = _; rw [HE.out]; rfl
      generalize UInt8.ofNat (at8 a k ^^^ at8 b k) = x at *
      have sz := hB.size
      have hgB := World.ownsRow.lt O g rfl
      have HL : Hid (LiesC (wr.alloc (.cells #[.int .u8 x.toNat] 5)) (some ⟨wr.heap.size, 0, none⟩) 1 [.int .u8 x.toNat]) := one_u8 _
      have HO : Hid (OwnB (wr.alloc (.cells #[.int .u8 x.toNat] 5)) w.heap.size (.slice (some ⟨g, 0, none⟩) l.length c) l) := World.ownsRow.alloc O _
      have B1 := (hB.alloc sz (.cells #[.int .u8 x.toNat] 5)).drew
      have s1 : w.heap.size ≤ ((wr.alloc (.cells #[.int .u8 x.toNat] 5)).drew).heap.size := B1.size
      go_wp2
      go_region_law ((refine step_append_byte (by rfl) _ _ (by rfl) w.heap.size (.slice (some ⟨g, 0, none⟩) l.length c) l (by rfl) HO.out _ 1 x (by rfl) HL.out lm s1 ?_; intro g' c' w3 O3 hg3))
      all_goals go_wp2
      all_goals (
        have B3 : Below w.heap.size w w3 := B1.trans (below_grown hg3 s1 (fun x hx => by have e : g = x := Option.some.inj hx; omega))
        refine ⟨⟨k + 1, l ++ [x], g', c', by omega, rfl, by rw [List.length_append]; rfl, O3, B3, HN.out⟩, by simp [intOf]; omega⟩)
    · obtain rfl : k = a.size := by omega
      have ht := OwnB.text O rfl
      rw [show (⟨l.toArray⟩ : ByteArray) = ⟨(xl a b a.size).toArray⟩ by rw [HE.out]] at ht
      go_wp2
      go_ret
      exact ⟨rfl, hB⟩
end Go.Proofs.YtbopcgokmgifhaaDoor
