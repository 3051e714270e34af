/- Kernels as they lie in memory: what is copied lies there; what is the same is as small. -/
import Derived.Test.YtonpoakimpoojaaKA7
namespace Go.Proofs.Ytonpoakimpoojaa
open Go.RowKit Go.Deep

theorem StrL.row.at {w : World} {c : StrL} (h : c.row w) (hs : c.small) : c.at w := by
  obtain ⟨b, e, hr⟩ := h
  refine ⟨by unfold maxLen; have := hs.1; omega, fun _ => ⟨b, 0, e, hr.lt, fun i hi => ?_⟩, fun i hi => by unfold maxLen; have := hs.2 i hi; omega⟩
  rw [Nat.zero_add]
  exact hr.cell hi
theorem ObjV.row.at {w : World} {t : ObjV} (h : t.row w) (hs : t.small) : t.at w := by
  obtain ⟨⟨b1, e1, r1⟩, r2, ⟨b3, e3, r3⟩, ⟨b4, e4, r4⟩⟩ := h
  obtain ⟨s1, s2, s3, s4, s5⟩ := hs
  refine ⟨⟨by unfold maxLen; omega, ?_⟩, StrL.row.at r2 s3, ⟨by unfold maxLen; omega, ?_⟩, ⟨by unfold maxLen; omega, ?_⟩, by unfold maxLen; omega⟩
  · rw [e1]; exact CatsAt.row r1
  · rw [e3]; exact IntsAt.row r3
  · rw [e4]; exact CatsAt.row r4
theorem ThrV.same.small {t u : ThrV} (h : t.same u) (hs : t.small) : u.small := by
  obtain ⟨_, _, ⟨e1, _⟩, _, ⟨e2, _⟩, ⟨e3, _⟩, _⟩ := h
  unfold ThrV.small at *
  rw [e1, e2, e3]
  exact hs
theorem ObjV.same.small {t u : ObjV} (h : t.same u) (hs : t.small) : u.small := by
  obtain ⟨_, _, _, _, ⟨e1, _⟩, e2, ⟨e3, e4⟩, ⟨e5, _⟩, _, ⟨e6, _⟩⟩ := h
  unfold ObjV.small StrL.small at *
  rw [e1, e2, e3, e4, e5, e6]
  exact hs
theorem KerV.same.small {k l : KerV} (h : k.same l) (hs : k.small) : l.small := by
  obtain ⟨e1, h1, e2, h2⟩ := h
  obtain ⟨⟨n1, s1⟩, ⟨n2, s2⟩⟩ := hs
  unfold KerV.small
  rw [e1, e2]
  exact ⟨⟨n1, fun i hi => ThrV.same.small (h1 i hi) (s1 i hi)⟩, ⟨n2, fun i hi => ObjV.same.small (h2 i hi) (s2 i hi)⟩⟩
theorem G10.cells {w : World} {b ty N : Nat} {G : Nat → Value} {o : Nat} {t : ObjV} (hr : w.rowIs b ty N G) (h : G10 G o t) (ho : o + 10 ≤ N) : Cells10 w b o t :=
  ⟨(hr.cell (by omega)).trans (congrArg some h.g0), (hr.cell (by omega)).trans (congrArg some h.g1), (hr.cell (by omega)).trans (congrArg some h.g2), (hr.cell (by omega)).trans (congrArg some h.g3), (hr.cell (by omega)).trans (congrArg some h.g4), (hr.cell (by omega)).trans (congrArg some h.g5), (hr.cell (by omega)).trans (congrArg some h.g6), (hr.cell (by omega)).trans (congrArg some h.g7), (hr.cell (by omega)).trans (congrArg some h.g8), (hr.cell (by omega)).trans (congrArg some h.g9)⟩
theorem ThrRow.at {w : World} {a : Option Addr} {n : Nat} {T : Nat → ThrV} (h : ThrRow w a n T) (hs : ∀ i, i < n → (T i).small) : ThrsAt w a n T := fun _ => by
  obtain ⟨b, G, e, hr, hj⟩ := h
  refine ⟨b, 0, e, hr.lt, fun i hi => ⟨?_, ThrV.row.at (hj i hi).2 (hs i hi)⟩⟩
  rw [Nat.zero_add]
  exact G7.cells hr (hj i hi).1 (by omega)
theorem ObjRow.at {w : World} {a : Option Addr} {n : Nat} {T : Nat → ObjV} (h : ObjRow w a n T) (hs : ∀ i, i < n → (T i).small) : ObjsAt w a n T := fun _ => by
  obtain ⟨b, G, e, hr, hj⟩ := h
  refine ⟨b, 0, e, hr.lt, fun i hi => ⟨?_, ObjV.row.at (hj i hi).2 (hs i hi)⟩⟩
  rw [Nat.zero_add]
  exact G10.cells hr (hj i hi).1 (by omega)
theorem KerV.row.at {w : World} {k : KerV} (h : k.row w) (hs : k.small) : k.at w :=
  ⟨by unfold maxLen; have := hs.1.1; omega, by unfold maxLen; have := hs.2.1; omega, ThrRow.at h.1 hs.1.2, ObjRow.at h.2 hs.2.2⟩

/-- two threads that are the same compare equal -/
theorem eqThread_v (t u : ThrV) (w : World) (ht : t.at w) (hu : u.at w) (h : t.same u) :
    Calls Try.prog 21 #[t.val, u.val] w fun e w' => e = .returned (.bool true) ∧ Below w.heap.size w w' := by
  obtain ⟨id, b1, ⟨a1, n1, k1, f1, g1⟩, b2, ⟨a2, n2, k2, f2, g2⟩, ⟨a3, n3, k3, h3⟩, m⟩ := t
  obtain ⟨id', b1', ⟨a1', n1', k1', f1', g1'⟩, b2', ⟨a2', n2', k2', f2', g2'⟩, ⟨a3', n3', k3', h3'⟩, m'⟩ := u
  obtain ⟨e1, e2, ⟨e3, e4, e5⟩, e6, ⟨e7, e8, e9⟩, ⟨e10, e11⟩, e12⟩ := h
  simp only at e1 e2 e3 e4 e5 e6 e7 e8 e9 e10 e11 e12
  subst e1 e2 e3 e4 e5 e6 e7 e8 e9 e10 e11 e12
  exact eqThread_true _ _ _ _ _ _ f1' g1' _ _ _ _ f2' g2' _ _ _ h3' _ _ _ _ _ _ w ht.1.1 ht.2.1.1 ht.2.2.1 ht.1.2 ht.2.1.2 ht.2.2.2 hu.1.2 hu.2.1.2 hu.2.2.2
end Go.Proofs.Ytonpoakimpoojaa
