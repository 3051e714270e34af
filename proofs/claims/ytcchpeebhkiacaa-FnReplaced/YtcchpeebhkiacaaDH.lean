/- Files cut out and put in, for the model. -/
import Derived.Test.YtcchpeebhkiacaaDG
namespace Go.Proofs.Ytcchpeebhkiacaa
open Go Go.RowKit Go.Deep Go.Maps

theorem below_grown {B : Nat} {w w' : World} {row : Option Nat} (h : w.grownBy w' row) (hB : B ≤ w.heap.size) (hr : ∀ j, row = some j → B ≤ j) : Below B w w' :=
  ⟨h.os, h.tape, h.output, h.size, fun k hk => h.block k (by omega) (fun e => by have := hr k e.symm; omega)⟩
theorem OwnF.low {w : World} {B : Nat} {v : Value} {l : List FileV} (h : OwnF w B v l) : ∀ j, v.ownBlock = some j → B ≤ j := fun j e => (World.ownsRow.lt h j e).1

/-- the first k of the files without those of the name s -/
def cutTo (f : Nat → FileV) (s : ByteArray) (k : Nat) : List FileV := ((List.range k).map f).filter (fun x => !(x.name.toList == s.toList))
theorem cutTo_yes {f : Nat → FileV} {s : ByteArray} {k : Nat} (h : ((f k).name.toList == s.toList) = false) : cutTo f s (k + 1) = cutTo f s k ++ [f k] := by simp [cutTo, List.range_succ, h]
theorem cutTo_no {f : Nat → FileV} {s : ByteArray} {k : Nat} (h : ((f k).name.toList == s.toList) = true) : cutTo f s (k + 1) = cutTo f s k := by simp [cutTo, List.range_succ, h]
theorem cutTo_len (f : Nat → FileV) (s : ByteArray) (k : Nat) : (cutTo f s k).length ≤ k := Nat.le_trans (List.length_filter_le _ _) (by simp)

set_option maxRecDepth 100000 in
set_option maxHeartbeats 4000000 in
theorem l11Cut_any (l : FileL) (s : ByteArray) (w : World) (hl : l.at w) (hn : l.n ≤ 1048576) :
    Calls Try.prog 55 #[l.val, .string s] w fun e w' => ∃ v, e = .returned v ∧ OwnF w' w.heap.size v (cutTo l.f s l.n) ∧ Below w.heap.size w w' := by
  obtain ⟨a, n, cap, f⟩ := l
  obtain ⟨_, hc, hf⟩ := hl
  simp only at hn hc hf
  unfold FileL.val
  simp only
  clear hf
  have E0 : Below w.heap.size w (w.alloc (.cells #[] 56)) := (Below.refl _ w).alloc (Nat.le_refl _) _
  have O0 := OwnF.made w w.heap.size (Nat.le_refl _)
  go_enter Try.func55, Try.ntmps55
  go_wp2
  go_loopw [5, 6] (fun v i wr => ∃ (k : Nat) (x : Option Addr) (c : Nat), k ≤ n ∧ i = .int .i64 k ∧ v = .slice x (cutTo f s k).length c ∧ OwnF wr w.heap.size (.slice x (cutTo f s k).length c) (cutTo f s k) ∧ Below w.heap.size w wr) (fun _ i _ => n - (intOf i).toNat)
  case atStart => exact ⟨0, _, _, Nat.zero_le _, rfl, rfl, O0, E0⟩
  case round =>
    clear O0 E0
    obtain ⟨k, x, c, hk, rfl, rfl, hO, hB⟩ := hrel
    have HO := hid hO
    clear hO
    have lc := cutTo_len f s k
    by_cases hlt' : k < n
    · obtain ⟨b, off, rfl, hlt, hcc⟩ := hc (by omega)
      have g1 : wr.cell? ⟨b, off + k * 2, none⟩ = some (.string (f k).name) := (hB.cell (p := ⟨b, _, none⟩) hlt).trans (hcc k hlt').1
      have g2 : wr.cell? ⟨b, off + k * 2 + 1, none⟩ = some (.string (f k).data) := (hB.cell (p := ⟨b, _, none⟩) hlt).trans (hcc k hlt').2
      have i0 : (0 : Int) ≤ (k : Int) := by omega
      have i1 : (k : Int) < (n : Int) := by omega
      clear hc hcc
      cases t : ((f k).name.toList == s.toList) with
      | true =>
        have EC := hid (cutTo_no t)
        go_wp2
        go_roundw
        case rel => exact ⟨k + 1, x, c, by omega, by go_num, by rw [EC.out], by rw [EC.out]; exact HO.out, hB⟩
        case measure => simp [intOf]; omega
      | false =>
        have EC := hid (cutTo_yes t)
        obtain ⟨R, hR⟩ : ∃ R, R = cutTo f s k ++ [f k] := ⟨_, rfl⟩
        have HR := hid hR
        have lR : R.length ≤ 4194304 := by rw [hR]; simp; omega
        clear hR
        have bz := hB.size
        go_wp2_with (at_builtin; refine wpList_append_files _ rfl _ _ rfl w.heap.size (.slice x (cutTo f s k).length c) (cutTo f s k) rfl (HO.out.alloc _) _ _ _ [f k] rfl rfl (FilL.one (f k)) R HR.out lR (by simp; omega) ?_; intro a1 c1 w1 o1 q1 h1)
        have B1 : Below w.heap.size w w1 := (hB.alloc bz _).trans (below_grown q1 (by simp; omega) HO.out.low)
        go_roundw
        case rel => exact ⟨k + 1, a1, c1, by omega, by go_num, by rw [EC.out, ← HR.out], by rw [EC.out, ← HR.out]; exact o1, B1⟩
        case measure => simp [intOf]; omega
    · clear hc
      obtain rfl : k = n := by omega
      go_wp2
      go_ret
      exact ⟨_, rfl, HO.out, hB⟩
end Go.Proofs.Ytcchpeebhkiacaa
