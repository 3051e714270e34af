/- FnExactLeq: the walk: the law answers true at every two labels that came in, and writes nothing that was there. -/
import Derived.Test.YtjmfaffghkclbaaX
import Derived.Test.YtjmfaffghkclbaaF
import Derived.Test.YtjmfaffghkclbaaM
namespace Go.Proofs.Ytjmfaffghkclbaa
open Go.RowKit Go.Deep Go.Maps

set_option maxRecDepth 100000 in
set_option maxHeartbeats 1000000 in
theorem specLeq_any (ba : Int) (aa : Option Addr) (na ka : Nat) (fa ga : Nat → Int) (bb : Int) (ab : Option Addr) (nb kb : Nat) (fb gb : Nat → Int) (w : World)
    (hna : na ≤ maxLen) (hnb : nb ≤ maxLen) (hca : CatsAt w aa na fa ga) (hcb : CatsAt w ab nb fb gb) :
    Calls Try.prog 34 #[.agg #[.int .i64 ba, .slice aa na ka], .agg #[.int .i64 bb, .slice ab nb kb]] w fun e w' => e = .returned (.bool (leqB ba na fa ga bb nb fb gb)) ∧ Below w.heap.size w w' := by
  have hb0 := ((Below.refl _ w).alloc (Nat.le_refl _) (.cells #[.int .i64 ba, .slice aa na ka] 26)).alloc (by simp) (.cells #[.int .i64 bb, .slice ab nb kb] 26)
  go_enter Try.func34, Try.ntmps34
  go_wp2_with fail
  refine (specOk_any _ _ _ _ fa ga _ hna (hca.below hb0)).mono ?_
  rintro e w1 ⟨rfl, hb1⟩
  obtain ⟨q1, _⟩ := bcell hb1
  have z1 : w.heap.size + 1 < w1.heap.size := by have := hb1.size; simp at this; omega
  have z1' : w.heap.size < w1.heap.size := by omega
  have B1 : Below w.heap.size w w1 := hb0.trans (hb1.mono (by simp; omega))
  by_cases t1 : labOk ba na fa ga = true
  · go_wp2_with fail
    refine (specOk_any _ _ _ _ fb gb _ hnb (hcb.below B1)).mono ?_
    rintro e w2 ⟨rfl, hb2⟩
    obtain ⟨q2, _⟩ := bcell hb2
    have B2 : Below w.heap.size w w2 := B1.trans (hb2.mono (by omega))
    by_cases t2 : labOk bb nb fb gb = true
    · go_wp2_with fail
      refine (l1Flows_any _ _ _ _ fa ga _ 0 _ (fun _ => 0) _ _ _ _ fb gb _ (by have := (labOk_out t1).2.1; omega) (by have := (labOk_out t2).2.1; omega) (Nat.zero_le _) (hca.below B2) (hcb.below B2) (fun h => by omega) (rising (labOk_out t1).2.2) (rising (labOk_out t2).2.2)).mono ?_
      rintro e w3 ⟨rfl, hb3⟩
      clear q1 q2 hca hcb
      go_wp2
      go_ret
      exact ⟨ret_bool (by simp [leqB, t1, t2]), B2.trans (hb3.mono B2.size)⟩
    · have t2' : labOk bb nb fb gb = false := by simpa using t2
      clear t2
      go_wp2
      go_ret
      exact ⟨ret_bool (by simp [leqB, t2']), B2⟩
  · have t1' : labOk ba na fa ga = false := by simpa using t1
    clear t1
    go_wp2
    go_ret
    exact ⟨ret_bool (by simp [leqB, t1']), B1⟩

/-- what lies in a block -/
def Blk (W : World) (P : Nat) (o : Obj) : Prop := W.heap[P]? = some o
theorem Blk.new (W : World) (o : Obj) : Blk (W.alloc o) W.heap.size o := blk_alloc_new _ _
theorem Blk.lt {W : World} {P : Nat} {o : Obj} (h : Blk W P o) : P < W.heap.size := (Array.getElem?_eq_some_iff.1 h).1
theorem Blk.alloc {W : World} {P : Nat} {o : Obj} (h : Blk W P o) (o' : Obj) : Blk (W.alloc o') P o := (blk_alloc_lt _ _ _ h.lt).trans h
theorem Blk.below {W W' : World} {P : Nat} {o : Obj} (h : Blk W P o) (hb : Below W.heap.size W W') : Blk W' P o := (hb.block P h.lt).trans h
theorem Blk.two {W : World} {P t : Nat} {x y : Value} (h : Blk W P (.cells #[x, y] t)) : W.cell? ⟨P, 0, none⟩ = some x ∧ W.cell? ⟨P, 1, none⟩ = some y := by
  unfold Blk at h
  simp [World.cell?, h]
end Go.Proofs.Ytjmfaffghkclbaa
