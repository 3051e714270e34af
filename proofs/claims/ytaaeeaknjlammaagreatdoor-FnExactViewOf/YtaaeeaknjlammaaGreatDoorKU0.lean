/- Kids of the model. -/
import Derived.Test.YtaaeeaknjlammaaGreatDoorKB10
import Derived.Test.YtaaeeaknjlammaaGreatDoorKB13
import Derived.Test.YtaaeeaknjlammaaGreatDoorKC3
namespace Go.Proofs.YtaaeeaknjlammaaGreatDoor
open Go Go.RowKit Go.Deep Go.Maps

/-- the numbers of all that lie in x, of the first q -/
def inX (O : Nat → ObjV) (x : Int) (q : Nat) : List Int := ((List.range q).filter (fun j => (O j).up == x)).map (fun i => (O i).id)
theorem inX_yes {O : Nat → ObjV} {x : Int} {q : Nat} (h : (O q).up = x) : inX O x (q + 1) = inX O x q ++ [(O q).id] := by
  simp [inX, List.range_succ, h]
theorem inX_no {O : Nat → ObjV} {x : Int} {q : Nat} (h : (O q).up ≠ x) : inX O x (q + 1) = inX O x q := by
  simp [inX, List.range_succ, h]
theorem inX_len (O : Nat → ObjV) (x : Int) (q : Nat) : (inX O x q).length ≤ q := by
  unfold inX
  rw [List.length_map]
  exact Nat.le_trans (List.length_filter_le _ _) (by simp)
theorem inX_kids {O : Nat → ObjV} {n u : Nat} : inX O (O u).id n = kidsTo (fun i => (O i).id) (fun i => (O i).up) n u := rfl

theorem Blk.belowG {w w' : World} {P : Nat} {o : Obj} (h : Blk w P o) (hg : w.grownBy w' none) : Blk w' P o := (hg.block P h.lt (by simp)).trans h

set_option maxRecDepth 100000 in
set_option maxHeartbeats 4000000 in
theorem l3Kids_any (k : KerV) (x : Int) (w : World) (hk : k.at w) (hn : k.on ≤ 271) :
    Calls Tryz.prog 25 #[k.val, .int .i64 x] w fun e w' => ∃ v, e = .returned v ∧ OwnI w' w.heap.size v (inX k.O x k.on) ∧ Below w.heap.size w w' := by
  have hb0 := (Below.refl _ w).alloc (Nat.le_refl _) (.cells #[.slice k.ta k.tn k.tk, .slice k.oa k.on k.ok] 35)
  have A0 := Blk.new w (.cells #[.slice k.ta k.tn k.tk, .slice k.oa k.on k.ok] 35)
  have bm := hb0.alloc hb0.size (.cells #[] 2)
  have A1 := A0.alloc (.cells #[] 2)
  have O1 := OwnI.made (w.alloc (.cells #[.slice k.ta k.tn k.tk, .slice k.oa k.on k.ok] 35)) (w.heap.size + 1) (by simp)
  have HT := hid hk
  unfold KerV.val
  clear hk
  go_enter Tryz.func25, Tryz.ntmps25
  go_wp2
  generalize hW : ((w.alloc (.cells #[.slice k.ta k.tn k.tk, .slice k.oa k.on k.ok] 35)).alloc (.cells #[] 2)) = W at *
  have O2 : OwnI W (w.heap.size + 1) (.slice (some ⟨w.heap.size + 1, 0, none⟩) 0 0) [] := by simpa using O1
  clear hW hb0 A0 O1
  go_loopw [5, 6] (fun v i wr => ∃ q : Nat, q ≤ k.on ∧ i = .int .i64 q ∧ Hid (OwnI wr (w.heap.size + 1) v (inX k.O x q)) ∧ Blk wr w.heap.size (.cells #[.slice k.ta k.tn k.tk, .slice k.oa k.on k.ok] 35) ∧ Below w.heap.size w wr) (fun _ i _ => k.on - (intOf i).toNat)
  case atStart => exact ⟨0, Nat.zero_le _, rfl, hid O2, A1, bm⟩
  case round =>
    clear O2 A1 bm
    obtain ⟨q, hq, rfl, HO, A, hB⟩ := hrel
    obtain ⟨x0, x1⟩ := A.two
    by_cases hlt : q < k.on
    · obtain ⟨b, off, ea, hlt0, hcc⟩ := HT.out.2.2.2.below hB (by omega)
      have q0 := (hcc q hlt).1.c0
      have q2 := (hcc q hlt).1.c2
      rw [ea] at x1
      have i1 : (q : Int) < (k.on : Int) := by omega
      clear hcc ea
      by_cases e : (k.O q).up = x
      · have e' : ((k.O q).up == x) = true := by simpa using e
        have EQ := hid (inX_yes e)
        have hl := inX_len k.O x q
        have B1 : Below w.heap.size w (wr.alloc (.cells #[.int .i64 (k.O q).id] 2)) := hB.alloc hB.size _
        have AA := A.alloc (.cells #[.int .i64 (k.O q).id] 2)
        have OA := hid (OwnI.alloc HO.out (.cells #[.int .i64 (k.O q).id] 2))
        have L1 := hid (NumL.one (w := wr) (k.O q).id)
        have s1 : w.heap.size + 1 ≤ (wr.alloc (.cells #[.int .i64 (k.O q).id] 2)).heap.size := by have := A.lt; simp; omega
        have FIN : Hid (∀ w3 : World, (wr.alloc (.cells #[.int .i64 (k.O q).id] 2)).grownBy w3 u5.ownBlock → Blk w3 w.heap.size (.cells #[.slice k.ta k.tn k.tk, .slice k.oa k.on k.ok] 35) ∧ Below w.heap.size w w3) := hid (fun w3 g3 => ⟨AA.grown g3 (fun e => by have := (World.ownsRow.lt OA.out _ e.symm).1; omega), B1.trans (below_grown g3 B1.size (fun j hj => by have := (World.ownsRow.lt OA.out j hj).1; omega))⟩)
        clear e HO
        go_wp2_with (refine wpList_append_ints _ rfl _ _ rfl (w.heap.size + 1) u5 (inX k.O x q) rfl OA.out _ 1 1 [(k.O q).id] rfl rfl L1.out (by omega) s1 ?_; intro a3 c3 w3 o3 g3 v3)
        rw [← EQ.out] at o3
        obtain ⟨f1, f2⟩ := FIN.out w3 g3
        exact ⟨⟨q + 1, by omega, by go_num, hid (by first | exact o3 | simpa [EQ.out] using o3), f1, f2⟩, by simp [intOf]; omega⟩
      · have e' : ((k.O q).up == x) = false := by simpa using e
        have EQ := hid (inX_no e)
        clear e
        go_wp2
        exact ⟨⟨q + 1, by omega, by go_num, hid (by rw [EQ.out]; exact HO.out), A, hB⟩, by simp [intOf]; omega⟩
    · have i1 : ¬ (q : Int) < (k.on : Int) := by omega
      have e : q = k.on := by omega
      have HO2 : Hid (OwnI wr (w.heap.size + 1) u5 (inX k.O x k.on)) := hid (by rw [← e]; exact HO.out)
      clear HO e
      go_wp2
      go_ret
      exact ⟨u5, rfl, HO2.out.low (by omega), hB⟩

end Go.Proofs.YtaaeeaknjlammaaGreatDoor
