/- Kernels as they lie in memory: the copy of a kernel. -/
import Derived.Test.YtonpoakimpoojaaKA6
namespace Go.Proofs.Ytonpoakimpoojaa
open Go.RowKit Go.Deep

/-- rows of threads and of objects of their own -/
def ThrRow (w : World) (a : Option Addr) (n : Nat) (T : Nat → ThrV) : Prop := ∃ b G, a = some ⟨b, 0, none⟩ ∧ w.rowIs b 49 (n * 7) G ∧ ∀ j, j < n → G7 G (j * 7) (T j) ∧ (T j).row w
def ObjRow (w : World) (a : Option Addr) (n : Nat) (T : Nat → ObjV) : Prop := ∃ b G, a = some ⟨b, 0, none⟩ ∧ w.rowIs b 41 (n * 10) G ∧ ∀ j, j < n → G10 G (j * 10) (T j) ∧ (T j).row w
theorem ThrRow.below {w w' : World} {a : Option Addr} {n : Nat} {T : Nat → ThrV} (h : ThrRow w a n T) (hb : Below w.heap.size w w') : ThrRow w' a n T := by
  obtain ⟨b, G, e, hr, hj⟩ := h
  exact ⟨b, G, e, rowUp hr hb, fun j h => ⟨(hj j h).1, ThrV.row.below (hj j h).2 hb⟩⟩
theorem ObjRow.below {w w' : World} {a : Option Addr} {n : Nat} {T : Nat → ObjV} (h : ObjRow w a n T) (hb : Below w.heap.size w w') : ObjRow w' a n T := by
  obtain ⟨b, G, e, hr, hj⟩ := h
  exact ⟨b, G, e, rowUp hr hb, fun j h => ⟨(hj j h).1, ObjV.row.below (hj j h).2 hb⟩⟩
theorem ThrRow.put {w : World} {a : Option Addr} {n : Nat} {T : Nat → ThrV} {P ty N : Nat} {G : Nat → Value} (h : ThrRow w a n T) (hP : w.rowIs P ty N G) (h1 : ty ≠ 112) (h2 : ty ≠ 2) (h4 : ty ≠ 49) (i : Nat) (v : Value) : ThrRow (w.setCell ⟨P, i, none⟩ v) a n T := by
  obtain ⟨b, G', e, hr, hj⟩ := h
  exact ⟨b, G', e, hr.setOther (row_ne hr hP h4.symm) v, fun j h => ⟨(hj j h).1, ThrV.row.put (hj j h).2 hP h1 h2 i v⟩⟩
theorem ObjRow.put {w : World} {a : Option Addr} {n : Nat} {T : Nat → ObjV} {P ty N : Nat} {G : Nat → Value} (h : ObjRow w a n T) (hP : w.rowIs P ty N G) (h1 : ty ≠ 112) (h2 : ty ≠ 2) (h3 : ty ≠ 9) (h4 : ty ≠ 41) (i : Nat) (v : Value) : ObjRow (w.setCell ⟨P, i, none⟩ v) a n T := by
  obtain ⟨b, G', e, hr, hj⟩ := h
  exact ⟨b, G', e, hr.setOther (row_ne hr hP h4.symm) v, fun j h => ⟨(hj j h).1, ObjV.row.put (hj j h).2 hP h1 h2 h3 i v⟩⟩
theorem Blk.row {W : World} {P t : Nat} {cs : Array Value} (h : Blk W P (.cells cs t)) : W.rowIs P t cs.size (fun i => cs[i]?.getD undef) := ⟨cs, h, rfl, fun i hi => by simp [hi]⟩
def KerV.same (k l : KerV) : Prop := l.tn = k.tn ∧ (∀ j, j < k.tn → (k.T j).same (l.T j)) ∧ l.on = k.on ∧ (∀ j, j < k.on → (k.O j).same (l.O j))
def KerV.row (w : World) (k : KerV) : Prop := ThrRow w k.ta k.tn k.T ∧ ObjRow w k.oa k.on k.O
theorem results10 (tmps : Array Value) (W : World) (P : Nat) (x y : Value) (h : Blk W P (.cells #[x, y] 31)) (h2 : tmps[2]? = some (.pointer (some ⟨P, 0, none⟩))) :
    (results Try.f10 tmps).run Try.prog W = .ok (.agg #[x, y]) W := by
  obtain ⟨z0, z1⟩ := h.two
  simp [results, Try.results10, go_sem, h2, z0, z1]

set_option maxRecDepth 100000 in
set_option maxHeartbeats 4000000 in
theorem toKernel_any (k : KerV) (w : World) (hk : k.at w) (hs : k.small) :
    Calls Try.prog 10 #[k.val] w fun e w' => ∃ l : KerV, e = .returned l.val ∧ k.same l ∧ l.ok = l.on ∧ l.row w' ∧ Below w.heap.size w w' := by
  have HK := hid hk
  obtain ⟨⟨n1, s1⟩, ⟨n2, s2⟩⟩ := hs
  have H1 := hid s1
  have H2 := hid s2
  clear hk s1 s2
  have S0 : Hid (Blk (((w.alloc (.cells #[.slice k.ta k.tn k.tk, .slice k.oa k.on k.ok] 25)).alloc (.cells #[.slice none 0 0, .slice none 0 0] 31)).alloc (.cells #[.slice none 0 0, .slice none 0 0] 31)) w.heap.size (.cells #[.slice k.ta k.tn k.tk, .slice k.oa k.on k.ok] 25)) := hid (((Blk.new w _).alloc _).alloc _)
  have R0 : Hid (Blk (((w.alloc (.cells #[.slice k.ta k.tn k.tk, .slice k.oa k.on k.ok] 25)).alloc (.cells #[.slice none 0 0, .slice none 0 0] 31)).alloc (.cells #[.slice none 0 0, .slice none 0 0] 31)) (w.heap.size + 1) (.cells #[.slice none 0 0, .slice none 0 0] 31)) := by
    have := (Blk.new (w.alloc (.cells #[.slice k.ta k.tn k.tk, .slice k.oa k.on k.ok] 25)) (.cells #[.slice none 0 0, .slice none 0 0] 31)).alloc (.cells #[.slice none 0 0, .slice none 0 0] 31)
    refine hid ?_
    simpa using this
  have Q0 : Hid (Blk (((w.alloc (.cells #[.slice k.ta k.tn k.tk, .slice k.oa k.on k.ok] 25)).alloc (.cells #[.slice none 0 0, .slice none 0 0] 31)).alloc (.cells #[.slice none 0 0, .slice none 0 0] 31)) (w.heap.size + 1 + 1) (.cells #[.slice none 0 0, .slice none 0 0] 31)) := by
    have := Blk.new ((w.alloc (.cells #[.slice k.ta k.tn k.tk, .slice k.oa k.on k.ok] 25)).alloc (.cells #[.slice none 0 0, .slice none 0 0] 31)) (.cells #[.slice none 0 0, .slice none 0 0] 31)
    refine hid ?_
    simpa using this
  have B0 : Hid (Below w.heap.size w (((w.alloc (.cells #[.slice k.ta k.tn k.tk, .slice k.oa k.on k.ok] 25)).alloc (.cells #[.slice none 0 0, .slice none 0 0] 31)).alloc (.cells #[.slice none 0 0, .slice none 0 0] 31))) := hid ((((Below.refl _ w).alloc (Nat.le_refl _) _).alloc (by simp) _).alloc (by simp; omega) _)
  unfold KerV.val
  go_enter Try.func10, Try.ntmps10
  go_wp2_with fail
  generalize (((w.alloc (.cells #[.slice k.ta k.tn k.tk, .slice k.oa k.on k.ok] 25)).alloc (.cells #[.slice none 0 0, .slice none 0 0] 31)).alloc (.cells #[.slice none 0 0, .slice none 0 0] 31)) = V0 at *
  refine (toThreadS_any _ _ _ k.T _ n1 (HK.out.2.2.1.below B0.out) H1.out).mono ?_
  rintro e w1 ⟨rfl, ⟨U, G, hG, hU⟩, hb1⟩
  have T1 : Hid (ThrRow w1 (some ⟨V0.heap.size, 0, none⟩) k.tn U) := hid ⟨_, G, rfl, hG, fun j h => ⟨(hU j h).1, (hU j h).2.2⟩⟩
  have E1 : Hid (∀ j, j < k.tn → (k.T j).same (U j)) := hid (fun j h => (hU j h).2.1)
  have Q1 := hid (Q0.out.below hb1)
  have S1 := hid (S0.out.below hb1)
  have R1 := hid (R0.out.below hb1)
  have B1 := hid (then_ B0.out hb1)
  clear hG hU hb1 Q0 S0 R0 B0
  generalize V0.heap.size = g1 at *
  obtain ⟨q0, q1⟩ := Q1.out.two
  obtain ⟨p0, p1⟩ := S1.out.two
  have qf := Q1.out.warm
  have Q2 : Hid (Blk (w1.setCell ⟨w.heap.size + 1 + 1, 0, none⟩ (.slice (some ⟨g1, 0, none⟩) k.tn k.tn)) (w.heap.size + 1 + 1) (.cells #[.slice (some ⟨g1, 0, none⟩) k.tn k.tn, .slice none 0 0] 31)) := hid (Q1.out.setAt _)
  have S2 := hid (S1.out.other (Q := w.heap.size + 1 + 1) (i := 0) (by omega) (.slice (some ⟨g1, 0, none⟩) k.tn k.tn))
  have R2 := hid (R1.out.other (Q := w.heap.size + 1 + 1) (i := 0) (by omega) (.slice (some ⟨g1, 0, none⟩) k.tn k.tn))
  have T2 := hid (ThrRow.put T1.out Q1.out.row (by decide) (by decide) (by decide) 0 (.slice (some ⟨g1, 0, none⟩) k.tn k.tn))
  have B2 := hid (B1.out.setCell (p := ⟨w.heap.size + 1 + 1, 0, none⟩) (show w.heap.size ≤ w.heap.size + 1 + 1 by omega) (.slice (some ⟨g1, 0, none⟩) k.tn k.tn))
  go_wp2_with fail
  generalize w1.setCell ⟨w.heap.size + 1 + 1, 0, none⟩ (.slice (some ⟨g1, 0, none⟩) k.tn k.tn) = V1 at *
  clear q0 q1 p0 p1 qf Q1 S1 R1 T1 B1
  refine (toObjectS_any _ _ _ k.O _ n2 (HK.out.2.2.2.below B2.out) H2.out).mono ?_
  rintro e w2 ⟨rfl, ⟨X, G', hG, hU⟩, hb2⟩
  have O3 : Hid (ObjRow w2 (some ⟨V1.heap.size, 0, none⟩) k.on X) := hid ⟨_, G', rfl, hG, fun j h => ⟨(hU j h).1, (hU j h).2.2⟩⟩
  have E2 : Hid (∀ j, j < k.on → (k.O j).same (X j)) := hid (fun j h => (hU j h).2.1)
  have Q3 := hid (Q2.out.below hb2)
  have R3 := hid (R2.out.below hb2)
  have T3 := hid (T2.out.below hb2)
  have B3 := hid (then_ B2.out hb2)
  clear hG hU hb2 Q2 S2 R2 T2 B2
  generalize V1.heap.size = g2 at *
  obtain ⟨q0, q1⟩ := Q3.out.two
  obtain ⟨p0, p1⟩ := R3.out.two
  have qf := Q3.out.warm
  have pf := R3.out.warm
  have ne1 : ¬ w.heap.size + 1 = w.heap.size + 1 + 1 := by omega
  have ne2 : ¬ w.heap.size + 1 + 1 = w.heap.size + 1 := by omega
  have R4 := hid (R3.out.other (Q := w.heap.size + 1 + 1) (i := 1) (by omega) (.slice (some ⟨g2, 0, none⟩) k.on k.on))
  have T4 := hid (ThrRow.put T3.out Q3.out.row (by decide) (by decide) (by decide) 1 (.slice (some ⟨g2, 0, none⟩) k.on k.on))
  have O4 := hid (ObjRow.put O3.out Q3.out.row (by decide) (by decide) (by decide) (by decide) 1 (.slice (some ⟨g2, 0, none⟩) k.on k.on))
  have B4 := hid (B3.out.setCell (p := ⟨w.heap.size + 1 + 1, 1, none⟩) (show w.heap.size ≤ w.heap.size + 1 + 1 by omega) (.slice (some ⟨g2, 0, none⟩) k.on k.on))
  have R5 := hid (R4.out.setAt (i := 0) (.slice (some ⟨g1, 0, none⟩) k.tn k.tn))
  have T5 := hid (ThrRow.put T4.out R4.out.row (by decide) (by decide) (by decide) 0 (.slice (some ⟨g1, 0, none⟩) k.tn k.tn))
  have O5 := hid (ObjRow.put O4.out R4.out.row (by decide) (by decide) (by decide) (by decide) 0 (.slice (some ⟨g1, 0, none⟩) k.tn k.tn))
  have T6 := hid (ThrRow.put T5.out R5.out.row (by decide) (by decide) (by decide) 1 (.slice (some ⟨g2, 0, none⟩) k.on k.on))
  have O6 := hid (ObjRow.put O5.out R5.out.row (by decide) (by decide) (by decide) (by decide) 1 (.slice (some ⟨g2, 0, none⟩) k.on k.on))
  go_wp2
  refine bodyPost_ret (results10 _ _ (w.heap.size + 1) (.slice (some ⟨g1, 0, none⟩) k.tn k.tn) (.slice (some ⟨g2, 0, none⟩) k.on k.on) (R5.out.setAt (i := 1) _) rfl) rfl ⟨⟨some ⟨g1, 0, none⟩, k.tn, k.tn, U, some ⟨g2, 0, none⟩, k.on, k.on, X⟩, rfl, ⟨rfl, E1.out, rfl, E2.out⟩, rfl, ⟨T6.out, O6.out⟩, ?_⟩
  exact (B4.out.setCell (show w.heap.size ≤ w.heap.size + 1 by omega) _).setCell (show w.heap.size ≤ w.heap.size + 1 by omega) _
end Go.Proofs.Ytonpoakimpoojaa
