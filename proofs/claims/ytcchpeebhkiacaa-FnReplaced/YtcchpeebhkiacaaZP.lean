/- Files cut out and put in, for the model. -/
import Derived.Test.YtcchpeebhkiacaaZO
namespace Go.Proofs.Ytcchpeebhkiacaa
open Go Go.RowKit Go.Deep Go.Maps

theorem below_grown {B : Nat} {w w' : World} {row : Option Nat} (h : w.grownBy w' row) (hB : B ≤ w.heap.size) (hr : ∀ j, row = some j → B ≤ j) : Below B w w' :=
  ⟨h.os, h.tape, h.output, h.size, fun k hk => h.block k (by omega) (fun e => by have := hr k e.symm; omega)⟩
theorem OwnF.low {w : World} {B : Nat} {v : Value} {l : List FileV} (h : OwnF w B v l) : ∀ j, v.ownBlock = some j → B ≤ j := fun j e => (World.ownsRow.lt h j e).1

/-- the first k of the files without those of the name s -/
def cutTo (f : Nat → FileV) (s : ByteArray) (k : Nat) : List FileV := ((List.range k).map f).filter (fun x => !(x.name.toList == s.toList))
theorem cutTo_yes {f : Nat → FileV} {s : ByteArray} {k : Nat} (h : ((f k).name.toList == s.toList) = false) : cutTo f s (k + 1) = cutTo f s k ++ [f k] := by simp [cutTo, List.range_succ, h]
theorem cutTo_no {f : Nat → FileV} {s : ByteArray} {k : Nat} (h : ((f k).name.toList == s.toList) = true) : cutTo f s (k + 1) = cutTo f s k := by simp [cutTo, List.range_succ, h]
theorem cutTo_len (f : Nat → FileV) (s : ByteArray) (k : Nat) : (cutTo f s k).length ≤ k := Nat.le_trans (List.length_filter_le _ _) (by simp)

set_option maxRecDepth 100000 in
set_option maxHeartbeats 4000000 in
theorem l11Cut_any (l : FileL) (s : ByteArray) (w : World) (hl : l.at w) (hn : l.n ≤ 1048576) :
    Calls Try.prog 55 #[l.val, .string s] w fun e w' => ∃ v, e = .returned v ∧ OwnF w' w.heap.size v (cutTo l.f s l.n) ∧ Below w.heap.size w w' := by
  obtain ⟨a, n, cap, f⟩ := l
  obtain ⟨_, hc, hf⟩ := hl
  simp only at hn hc hf
  unfold FileL.val
  simp only
  clear hf
  have E0 : Below w.heap.size w (w.alloc (.cells #[] 56)) := (Below.refl _ w).alloc (Nat.le_refl _) _
  have O0 := OwnF.made w w.heap.size (Nat.le_refl _)
  go_enter Try.func55, Try.ntmps55
  go_wp2
  go_loopw [5, 6] (fun v i wr => ∃ (k : Nat) (x : Option Addr) (c : Nat), k ≤ n ∧ i = .int .i64 k ∧ v = .slice x (cutTo f s k).length c ∧ OwnF wr w.heap.size (.slice x (cutTo f s k).length c) (cutTo f s k) ∧ Below w.heap.size w wr) (fun _ i _ => n - (intOf i).toNat)
  case atStart => exact ⟨0, _, _, Nat.zero_le _, rfl, rfl, O0, E0⟩
  case round =>
    clear O0 E0
    obtain ⟨k, x, c, hk, rfl, rfl, hO, hB⟩ := hrel
    have HO := hid hO
    clear hO
    have lc := cutTo_len f s k
    by_cases hlt' : k < n
    · obtain ⟨b, off, rfl, hlt, hcc⟩ := hc (by omega)
      have g1 : wr.cell? ⟨b, off + k * 2, none⟩ = some (.string (f k).name) := (hB.cell (p := ⟨b, _, none⟩) hlt).trans (hcc k hlt').1
      have g2 : wr.cell? ⟨b, off + k * 2 + 1, none⟩ = some (.string (f k).data) := (hB.cell (p := ⟨b, _, none⟩) hlt).trans (hcc k hlt').2
      have i0 : (0 : Int) ≤ (k : Int) := by omega
      have i1 : (k : Int) < (n : Int) := by omega
      clear hc hcc
      cases t : ((f k).name.toList == s.toList) with
      | true =>
        have EC := hid (cutTo_no t)
        go_wp2
        go_roundw
        case rel => exact ⟨k + 1, x, c, by omega, by go_num, by rw [EC.out], by rw [EC.out]; exact HO.out, hB⟩
        case measure => simp [intOf]; omega
      | false =>
        have EC := hid (cutTo_yes t)
        obtain ⟨R, hR⟩ : ∃ R, R = cutTo f s k ++ [f k] := ⟨_, rfl⟩
        have HR := hid hR
        have lR : R.length ≤ 4194304 := by rw [hR]; simp; omega
        clear hR
        have bz := hB.size
        go_wp2_with (at_builtin; refine wpList_append_files _ rfl _ _ rfl w.heap.size (.slice x (cutTo f s k).length c) (cutTo f s k) rfl (HO.out.alloc _) _ _ _ [f k] rfl rfl (FilL.one (f k)) R HR.out lR (by simp; omega) ?_; intro a1 c1 w1 o1 q1 h1)
        have B1 : Below w.heap.size w w1 := (hB.alloc bz _).trans (below_grown q1 (by simp; omega) HO.out.low)
        go_roundw
        case rel => exact ⟨k + 1, a1, c1, by omega, by go_num, by rw [EC.out, ← HR.out], by rw [EC.out, ← HR.out]; exact o1, B1⟩
        case measure => simp [intOf]; omega
    · clear hc
      obtain rfl : k = n := by omega
      go_wp2
      go_ret
      exact ⟨_, rfl, HO.out, hB⟩
end Go.Proofs.Ytcchpeebhkiacaa
/- A file put in, for the model. -/
namespace Go.Proofs.Ytcchpeebhkiacaa
open Go Go.RowKit Go.Deep Go.Maps

/-- the files behind the first k, and whether the new one is among them -/
def putSt (f : Nat → FileV) (s d : ByteArray) : Nat → List FileV × Bool
  | 0 => ([], false)
  | k + 1 =>
    ((putSt f s d k).1 ++ (if (putSt f s d k).2 = false ∧ Op.bytesLess (f k).name.toList s.toList = false then [⟨s, d⟩] else []) ++ (if ((f k).name.toList == s.toList) = true then [] else [f k]),
      (putSt f s d k).2 || !(Op.bytesLess (f k).name.toList s.toList))
theorem putSt_len (f : Nat → FileV) (s d : ByteArray) (k : Nat) : (putSt f s d k).1.length ≤ 2 * k := by
  induction k with
  | zero => simp [putSt]
  | succ k ih =>
    simp only [putSt, List.length_append]
    have e1 : (if (putSt f s d k).2 = false ∧ Op.bytesLess (f k).name.toList s.toList = false then [(⟨s, d⟩ : FileV)] else []).length ≤ 1 := by split <;> simp
    have e2 : (if ((f k).name.toList == s.toList) = true then [] else [f k]).length ≤ 1 := by split <;> simp
    omega
def putF (n : Nat) (f : Nat → FileV) (s d : ByteArray) : List FileV := if (putSt f s d n).2 = true then (putSt f s d n).1 else (putSt f s d n).1 ++ [⟨s, d⟩]

set_option maxRecDepth 100000 in
set_option maxHeartbeats 8000000 in
theorem l11Put_any (l : FileL) (s d : ByteArray) (w : World) (hl : l.at w) (hn : l.n ≤ 1048576) :
    Calls Try.prog 54 #[l.val, .string s, .string d] w fun e w' => ∃ v, e = .returned v ∧ OwnF w' w.heap.size v (putF l.n l.f s d) ∧ Below w.heap.size w w' := by
  obtain ⟨a, n, cap, f⟩ := l
  obtain ⟨_, hc, hf⟩ := hl
  simp only at hn hc hf
  unfold FileL.val
  simp only
  clear hf
  have E0 : Below w.heap.size w (w.alloc (.cells #[] 56)) := (Below.refl _ w).alloc (Nat.le_refl _) _
  have O0 := OwnF.made w w.heap.size (Nat.le_refl _)
  go_enter Try.func54, Try.ntmps54
  go_wp2
  go_loopw [7, 8, 9] (fun v y i wr => ∃ (k : Nat) (x : Option Addr) (c : Nat), k ≤ n ∧ i = .int .i64 k ∧ v = .slice x (putSt f s d k).1.length c ∧ y = .bool (putSt f s d k).2 ∧ OwnF wr w.heap.size (.slice x (putSt f s d k).1.length c) (putSt f s d k).1 ∧ Below w.heap.size w wr) (fun _ _ i _ => n - (intOf i).toNat)
  case atStart => exact ⟨0, _, _, Nat.zero_le _, rfl, rfl, rfl, O0, E0⟩
  case round =>
    clear O0 E0
    obtain ⟨k, x, c, hk, rfl, rfl, rfl, hO, hB⟩ := hrel
    have lc := putSt_len f s d k
    have bz := hB.size
    by_cases hlt' : k < n
    · have ES : Hid (putSt f s d (k + 1) = ((putSt f s d k).1 ++ (if (putSt f s d k).2 = false ∧ Op.bytesLess (f k).name.toList s.toList = false then [⟨s, d⟩] else []) ++ (if ((f k).name.toList == s.toList) = true then [] else [f k]), (putSt f s d k).2 || !(Op.bytesLess (f k).name.toList s.toList))) := hid rfl
      generalize (putSt f s d k).1 = O at *
      generalize (putSt f s d k).2 = dn at *
      have HO := hid hO
      clear hO
      obtain ⟨b, off, rfl, hlt, hcc⟩ := hc (by omega)
      have G1 := hid (hcc k hlt').1
      have G2 := hid (hcc k hlt').2
      have g1 : wr.cell? ⟨b, off + k * 2, none⟩ = some (.string (f k).name) := (hB.cell (p := ⟨b, _, none⟩) hlt).trans G1.out
      have g2 : wr.cell? ⟨b, off + k * 2 + 1, none⟩ = some (.string (f k).data) := (hB.cell (p := ⟨b, _, none⟩) hlt).trans G2.out
      have i0 : (0 : Int) ≤ (k : Int) := by omega
      have i1 : (k : Int) < (n : Int) := by omega
      clear hc hcc
      obtain ⟨R1, hR1⟩ : ∃ R1 : List FileV, R1 = O ++ [⟨s, d⟩] := ⟨_, rfl⟩
      obtain ⟨R2, hR2⟩ : ∃ R2 : List FileV, R2 = O ++ [f k] := ⟨_, rfl⟩
      obtain ⟨R3, hR3⟩ : ∃ R3 : List FileV, R3 = R1 ++ [f k] := ⟨_, rfl⟩
      have lR1 : R1.length ≤ 4194304 := by rw [hR1]; simp; omega
      have lR2 : R2.length ≤ 4194304 := by rw [hR2]; simp; omega
      have lR3 : R3.length ≤ 4194304 := by rw [hR3, hR1]; simp; omega
      have HR1 := hid hR1
      have HR2 := hid hR2
      have HR3 := hid hR3
      clear hR1 hR2 hR3
      cases t : ((f k).name.toList == s.toList) with
      | true =>
        cases dn with
        | true =>
          have e1 : Hid ((putSt f s d (k + 1)).1 = O) := hid (by rw [ES.out]; simp only [t]; simp)
          have e2 : Hid ((putSt f s d (k + 1)).2 = true) := hid (by rw [ES.out]; simp)
          clear ES
          go_wp2
          go_roundw
          case rel => exact ⟨k + 1, x, c, by omega, by go_num, by rw [e1.out], by rw [e2.out], by rw [e1.out]; exact HO.out, hB⟩
          case measure => simp [intOf]; omega
        | false =>
          cases u : Op.bytesLess (f k).name.toList s.toList with
          | true =>
            have e1 : Hid ((putSt f s d (k + 1)).1 = O) := hid (by rw [ES.out]; simp only [t, u]; simp)
            have e2 : Hid ((putSt f s d (k + 1)).2 = false) := hid (by rw [ES.out]; simp [u])
            clear ES
            go_wp2
            go_roundw
            case rel => exact ⟨k + 1, x, c, by omega, by go_num, by rw [e1.out], by rw [e2.out], by rw [e1.out]; exact HO.out, hB⟩
            case measure => simp [intOf]; omega
          | false =>
            have e1 : Hid ((putSt f s d (k + 1)).1 = R1) := hid (by rw [ES.out]; simp only [t, u]; simp [HR1.out])
            have e2 : Hid ((putSt f s d (k + 1)).2 = true) := hid (by rw [ES.out]; simp [u])
            clear ES
            go_wp2_with (at_builtin; refine wpList_append_files _ rfl _ _ rfl w.heap.size (.slice x O.length c) O rfl (HO.out.alloc _) _ _ _ [⟨s, d⟩] rfl rfl (FilL.one (⟨s, d⟩)) R1 HR1.out lR1 (by simp; omega) ?_; intro a1 c1 w1 o1 q1 h1; have B1 : Below w.heap.size w w1 := (hB.alloc bz _).trans (below_grown q1 (by simp; omega) HO.out.low); have p1 := (B1.cell (p := ⟨b, off + k * 2, none⟩) hlt).trans G1.out; have p2 := (B1.cell (p := ⟨b, off + k * 2 + 1, none⟩) hlt).trans G2.out; have bz1 := B1.size)
            go_roundw
            case rel => exact ⟨k + 1, a1, c1, by omega, by go_num, by rw [e1.out], by rw [e2.out], by rw [e1.out]; exact o1, B1⟩
            case measure => simp [intOf]; omega
      | false =>
        cases dn with
        | true =>
          have e1 : Hid ((putSt f s d (k + 1)).1 = R2) := hid (by rw [ES.out]; simp only [t]; simp [HR2.out])
          have e2 : Hid ((putSt f s d (k + 1)).2 = true) := hid (by rw [ES.out]; simp)
          clear ES
          go_wp2_with (at_builtin; refine wpList_append_files _ rfl _ _ rfl w.heap.size (.slice x O.length c) O rfl (HO.out.alloc _) _ _ _ [f k] rfl rfl (FilL.one (f k)) R2 HR2.out lR2 (by simp; omega) ?_; intro a1 c1 w1 o1 q1 h1; have B1 : Below w.heap.size w w1 := (hB.alloc bz _).trans (below_grown q1 (by simp; omega) HO.out.low); have p1 := (B1.cell (p := ⟨b, off + k * 2, none⟩) hlt).trans G1.out; have p2 := (B1.cell (p := ⟨b, off + k * 2 + 1, none⟩) hlt).trans G2.out; have bz1 := B1.size)
          go_roundw
          case rel => exact ⟨k + 1, a1, c1, by omega, by go_num, by rw [e1.out], by rw [e2.out], by rw [e1.out]; exact o1, B1⟩
          case measure => simp [intOf]; omega
        | false =>
          cases u : Op.bytesLess (f k).name.toList s.toList with
          | true =>
            have e1 : Hid ((putSt f s d (k + 1)).1 = R2) := hid (by rw [ES.out]; simp only [t, u]; simp [HR2.out])
            have e2 : Hid ((putSt f s d (k + 1)).2 = false) := hid (by rw [ES.out]; simp [u])
            clear ES
            go_wp2_with (at_builtin; refine wpList_append_files _ rfl _ _ rfl w.heap.size (.slice x O.length c) O rfl (HO.out.alloc _) _ _ _ [f k] rfl rfl (FilL.one (f k)) R2 HR2.out lR2 (by simp; omega) ?_; intro a1 c1 w1 o1 q1 h1; have B1 : Below w.heap.size w w1 := (hB.alloc bz _).trans (below_grown q1 (by simp; omega) HO.out.low); have p1 := (B1.cell (p := ⟨b, off + k * 2, none⟩) hlt).trans G1.out; have p2 := (B1.cell (p := ⟨b, off + k * 2 + 1, none⟩) hlt).trans G2.out; have bz1 := B1.size)
            go_roundw
            case rel => exact ⟨k + 1, a1, c1, by omega, by go_num, by rw [e1.out], by rw [e2.out], by rw [e1.out]; exact o1, B1⟩
            case measure => simp [intOf]; omega
          | false =>
            have e1 : Hid ((putSt f s d (k + 1)).1 = R3) := hid (by rw [ES.out]; simp only [t, u]; simp [HR3.out, HR1.out])
            have e2 : Hid ((putSt f s d (k + 1)).2 = true) := hid (by rw [ES.out]; simp [u])
            clear ES
            go_wp2_with (first | (at_builtin; have hq := o1; clear hq; refine wpList_append_files _ rfl _ _ rfl w.heap.size (.slice a1 R1.length c1) R1 rfl (o1.alloc _) _ _ _ [f k] rfl rfl (FilL.one (f k)) R3 HR3.out lR3 (by simp; omega) ?_; intro a2 c2 w2 o2 q2 h2; have B2 : Below w.heap.size w w2 := (B1.alloc bz1 _).trans (below_grown q2 (by simp; omega) o1.low)) | (at_builtin; refine wpList_append_files _ rfl _ _ rfl w.heap.size (.slice x O.length c) O rfl (HO.out.alloc _) _ _ _ [⟨s, d⟩] rfl rfl (FilL.one (⟨s, d⟩)) R1 HR1.out lR1 (by simp; omega) ?_; intro a1 c1 w1 o1 q1 h1; have B1 : Below w.heap.size w w1 := (hB.alloc bz _).trans (below_grown q1 (by simp; omega) HO.out.low); have p1 := (B1.cell (p := ⟨b, off + k * 2, none⟩) hlt).trans G1.out; have p2 := (B1.cell (p := ⟨b, off + k * 2 + 1, none⟩) hlt).trans G2.out; have bz1 := B1.size))
            go_roundw
            case rel => exact ⟨k + 1, a2, c2, by omega, by go_num, by rw [e1.out], by rw [e2.out], by rw [e1.out]; exact o2, B2⟩
            case measure => simp [intOf]; omega
    · clear hc
      obtain rfl : k = n := by omega
      cases t : (putSt f s d k).2 with
      | true =>
        have E := hid (show putF k f s d = (putSt f s d k).1 by rw [putF, if_pos t])
        generalize (putSt f s d k).1 = O at *
        go_wp2
        go_ret
        exact ⟨_, rfl, by rw [E.out]; exact hO, hB⟩
      | false =>
        have E := hid (show putF k f s d = (putSt f s d k).1 ++ [⟨s, d⟩] by rw [putF, if_neg (by rw [t]; decide)])
        generalize (putSt f s d k).1 = O at *
        have HO := hid hO
        clear hO
        obtain ⟨R1, hR1⟩ : ∃ R1 : List FileV, R1 = O ++ [⟨s, d⟩] := ⟨_, rfl⟩
        have lR1 : R1.length ≤ 4194304 := by rw [hR1]; simp; omega
        have HR1 := hid hR1
        clear hR1
        go_wp2_with (at_builtin; refine wpList_append_files _ rfl _ _ rfl w.heap.size (.slice x O.length c) O rfl (HO.out.alloc _) _ _ _ [⟨s, d⟩] rfl rfl (FilL.one (⟨s, d⟩)) R1 HR1.out lR1 (by simp; omega) ?_; intro a1 c1 w1 o1 q1 h1; have B1 : Below w.heap.size w w1 := (hB.alloc bz _).trans (below_grown q1 (by simp; omega) HO.out.low))
        go_ret
        exact ⟨_, rfl, by rw [E.out, ← HR1.out]; exact o1, B1⟩
end Go.Proofs.Ytcchpeebhkiacaa
