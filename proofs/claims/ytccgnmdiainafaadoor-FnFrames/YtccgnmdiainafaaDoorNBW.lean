/- Numbers in bytes: l7Big of the model. -/
import Derived.Test.YtccgnmdiainafaaDoorNGR
namespace Go.Proofs.YtccgnmdiainafaaDoor
open Go Go.RowKit Go.Deep Go.Maps
open Go.WideShapes (add_plain)

theorem bigL_split (n : Int) (m k : Nat) (h : k ≤ m) : bigL n m = (bigL n m).take (m - k) ++ bigL n k := by
  induction m with
  | zero => obtain rfl : k = 0 := by omega
            rfl
  | succ m ih =>
    by_cases e : k = m + 1
    · subst e; simp
    · rw [show m + 1 - k = (m - k) + 1 by omega]
      simp only [bigL, List.take_succ_cons, List.cons_append, List.cons.injEq, true_and]
      exact ih (by omega)
theorem below_grown {a b : World} {B : Nat} {P : Option Nat} (h : a.grownBy b P) (hB : B ≤ a.heap.size) (hp : ∀ x, P = some x → B ≤ x) : Below B a b :=
  ⟨h.os, h.tape, h.output, h.size, fun k hk => h.block k (by omega) (fun e => by have := hp k (by first | exact e | exact e.symm); omega)⟩
theorem pow8 (i : Nat) (h : i ≤ 7) : (8 * (i : Int)).toNat = 8 * i := by omega

set_option maxRecDepth 100000 in
set_option maxHeartbeats 2000000 in
theorem l7Big_any (n : Int) (m : Nat) (w : World) (hm : m ≤ 8) (hm1 : 1 ≤ m) :
    Calls Tryd.prog 24 #[.int .i64 n, .int .i64 m] w fun e w' => e = .returned (.string ⟨(bigL n m).toArray⟩) ∧ Below w.heap.size w w' := by
  have K0 := (Below.refl _ w).alloc (Nat.le_refl _) (.cells #[] 5)
  have O0 : OwnB (w.alloc (.cells #[] 5)) w.heap.size (.slice (some ⟨w.heap.size, 0, none⟩) 0 0) [] := World.ownsRow_made w #[] 0 (Nat.le_refl _) (Nat.zero_le _) rfl
  go_enter Tryd.func24, Tryd.ntmps24
  go_wp2_with fail
  go_loopw [5, 6] (fun v i wr => ∃ (k : Nat) (l : List UInt8) (g c : Nat), k ≤ m ∧ i = .int .i64 ((k : Int) - 1) ∧ v = .slice (some ⟨g, 0, none⟩) l.length c ∧ OwnB wr w.heap.size (.slice (some ⟨g, 0, none⟩) l.length c) l ∧ Below w.heap.size w wr ∧ l.length + k = m ∧ bigL n m = l ++ bigL n k) (fun _ i _ => (intOf i + 1).toNat)
  case atStart => exact ⟨m, [], w.heap.size, 0, Nat.le_refl _, rfl, rfl, O0, K0, by simp, rfl⟩
  case round =>
    obtain ⟨k, l, g, c, hk, rfl, rfl, O, hB, hl, he⟩ := hrel
    have HE := hid he
    have HLn := hid hl
    have lm : l.length ≤ 1000 := by omega
    clear K0 O0 he hl
    by_cases h0 : 1 ≤ k
    · have h0' : (0 : Int) ≤ (k : Int) - 1 := by omega
      have HL : Hid (LiesC (wr.alloc (.cells #[.int .u8 (n / 2 ^ (8 * (k - 1)) % 256)] 5)) (some ⟨wr.heap.size, 0, none⟩) 1 [.int .u8 (byteOf n (k - 1)).toNat]) := by
        show LiesC _ _ _ _
        rw [byteOf_val]
        exact one_u8 _
      have HO : Hid (OwnB (wr.alloc (.cells #[.int .u8 (n / 2 ^ (8 * (k - 1)) % 256)] 5)) w.heap.size (.slice (some ⟨g, 0, none⟩) l.length c) l) := World.ownsRow.alloc O _
      have hgB : w.heap.size ≤ g := (World.ownsRow.lt HO.out g rfl).1
      have sz := hB.size
      have B1 := hB.alloc sz (.cells #[.int .u8 (n / 2 ^ (8 * (k - 1)) % 256)] 5)
      have E2 : Hid (bigL n m = (l ++ [byteOf n (k - 1)]) ++ bigL n (k - 1)) := by
        show bigL n m = _
        rw [HE.out, List.append_assoc]
        obtain ⟨j, rfl⟩ : ∃ j, k = j + 1 := ⟨k - 1, by omega⟩
        rfl
      have HN : Hid ((l ++ [byteOf n (k - 1)]).length + (k - 1) = m) := by
        show _ = _
        have := HLn.out
        rw [List.length_append]
        simp
        omega
      clear O hB HE HLn
      go_wp2_with (at_builtin; refine wpList_append_byte _ rfl _ _ rfl w.heap.size _ l rfl HO.out _ 1 (byteOf n (k - 1)) rfl HL.out lm (Nat.le_trans sz (by simp)) ?_; intro g' c' w3 O3 hg3)
      have B3 : Below w.heap.size w w3 := B1.trans (below_grown hg3 (by simp; omega) (fun x hx => by have e : g = x := Option.some.inj hx; omega))
      go_roundw
      case rel => exact ⟨k - 1, _, g', c', by omega, by go_num, by rw [List.length_append]; rfl, O3, B3, HN.out, E2.out⟩
      case measure => simp [intOf]; omega
    · have hk0 : k = 0 := by omega
      subst hk0
      have ht := OwnB.text O rfl
      have hE : ⟨l.toArray⟩ = (⟨(bigL n m).toArray⟩ : ByteArray) := by rw [HE.out]; simp [bigL]
      rw [hE] at ht
      clear hE
      go_wp2
      go_ret
      exact ⟨rfl, hB⟩
end Go.Proofs.YtccgnmdiainafaaDoor
