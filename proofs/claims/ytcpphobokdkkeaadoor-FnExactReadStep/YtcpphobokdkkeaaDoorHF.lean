/- Steps in the exact laws: their budget, their copies and their comparison. -/
import Derived.Test.YtcpphobokdkkeaaDoorHCa
import Derived.Test.YtcpphobokdkkeaaDoorC
namespace Go.Proofs.YtcpphobokdkkeaaDoor
open Go.RowKit Go.Deep

theorem szOf_cases (n : Nat) (left : Int) (h0 : 0 ≤ left) (h1 : left ≤ 1048576) : (szOf n left = -1) ∨ (0 ≤ szOf n left ∧ szOf n left ≤ left ∧ n ≤ 1048576) := by
  unfold szOf; split
  · exact .inl rfl
  · right; omega

set_option maxHeartbeats 1000000 in
theorem szStep_any (th kind id to' cat : Int) (d : ByteArray) (bl : Int) (al : Option Addr) (nl kl : Nat) (bc : Int) (ac : Option Addr) (nc kc : Nat) (left : Int) (w : World)
    (hd : d.size ≤ maxLen) (hnl : nl ≤ maxLen) (hnc : nc ≤ maxLen) (h0 : 0 ≤ left) (h1 : left ≤ 1048576) :
    Calls Tryd.prog 5 #[.agg #[.int .i64 th, .int .i64 kind, .int .i64 id, .int .i64 to', .int .i64 cat, .string d, .int .i64 bl, .slice al nl kl, .int .i64 bc, .slice ac nc kc], .int .i64 left] w fun e w' =>
      ∃ r : Int, e = .returned (.int .i64 r) ∧ (r = -1 ∨ (0 ≤ r ∧ r ≤ left ∧ d.size ≤ 1048576 ∧ nl ≤ 1048576 ∧ nc ≤ 1048576)) ∧ Below w.heap.size w w' := by
  have hb0 := (Below.refl _ w).alloc (Nat.le_refl _) (.cells #[.int .i64 th, .int .i64 kind, .int .i64 id, .int .i64 to', .int .i64 cat, .string d, .int .i64 bl, .slice al nl kl, .int .i64 bc, .slice ac nc kc] 26)
  have hd' := hd
  unfold maxLen at hd'
  go_enter Tryd.func5, Tryd.ntmps5
  go_wp2_with fail
  · go_ret
    exact ⟨_, rfl, .inl rfl, hb0⟩
  refine (szLabel_any _ _ _ _ _ _ hnl (by omega) (by omega)).mono ?_
  rintro e w1 ⟨rfl, hb1⟩
  obtain ⟨q1, _⟩ := bcell hb1
  have z1 : w.heap.size < w1.heap.size := by have := hb1.size; simp at this; omega
  have B1 : Below w.heap.size w w1 := hb0.trans (hb1.mono (by simp))
  have s1 := szOf_cases nl (left - d.size) (by omega) (by omega)
  generalize szOf nl (left - d.size) = r1 at *
  rcases s1 with rfl | ⟨u1, v1, m1⟩
  · go_wp2
    go_ret
    exact ⟨_, rfl, .inl rfl, B1⟩
  · go_wp2_with fail
    refine (szLabel_any _ _ _ _ _ _ hnc u1 (by omega)).mono ?_
    rintro e w2 ⟨rfl, hb2⟩
    have B2 : Below w.heap.size w w2 := B1.trans (hb2.mono (by omega))
    have s2 := szOf_cases nc r1 u1 (by omega)
    generalize szOf nc r1 = r2 at *
    rcases s2 with rfl | ⟨u2, v2, m2⟩
    · go_wp2
      go_ret
      exact ⟨_, rfl, .inl rfl, B2⟩
    · go_wp2
      go_ret
      exact ⟨_, rfl, .inr ⟨u2, by omega, by omega, m1, m2⟩, B2⟩

set_option maxHeartbeats 1000000 in
theorem toStep_new (th kind id to' cat : Int) (d : ByteArray) (bl : Int) (al : Option Addr) (nl kl : Nat) (fl gl : Nat → Int) (bc : Int) (ac : Option Addr) (nc kc : Nat) (fc gc : Nat → Int) (w : World)
    (hnl : nl ≤ 1048576) (hnc : nc ≤ 1048576) (hcl : CatsAt w al nl fl gl) (hcc : CatsAt w ac nc fc gc) :
    Calls Tryd.prog 7 #[.agg #[.int .i64 th, .int .i64 kind, .int .i64 id, .int .i64 to', .int .i64 cat, .string d, .int .i64 bl, .slice al nl kl, .int .i64 bc, .slice ac nc kc]] w fun e w' =>
      ∃ c1 c2, e = .returned (.agg #[.int .i64 th, .int .i64 kind, .int .i64 id, .int .i64 to', .int .i64 cat, .string d, .int .i64 bl, .slice (some ⟨c1, 0, none⟩) nl nl, .int .i64 bc, .slice (some ⟨c2, 0, none⟩) nc nc]) ∧ w.heap.size ≤ c1 ∧ c1 < c2 ∧
        w'.rowIs c1 68 (nl * 2) (pairCell fl gl) ∧ w'.rowIs c2 68 (nc * 2) (pairCell fc gc) ∧ Below w.heap.size w w' := by
  go_enter Tryd.func7, Tryd.ntmps7
  go_wp2_with fail
  refine (toLabel_any _ _ _ _ fl gl _ hnl (hcl.below ?_)).mono ?_
  · iterate 12 (first | (refine Below.setCell ?_ (by dsimp only; omega) _) | skip)
    exact ((((Below.refl _ w).alloc (Nat.le_refl _) _).alloc (by simp) _).alloc (by simp; omega) _)
  rintro e w1 ⟨c1, rfl, hl1, r1, hb1⟩
  obtain ⟨q1, p1⟩ := bcell hb1
  have z1 : w.heap.size + 1 + 1 < w1.heap.size := by have := hb1.size; simp at this; omega
  have z1' : w.heap.size + 1 < w1.heap.size := by omega
  have z1'' : w.heap.size < w1.heap.size := by omega
  have B1 : Below w.heap.size w w1 := by
    refine Below.trans ?_ (hb1.mono (by simp; omega))
    iterate 12 (first | (refine Below.setCell ?_ (by dsimp only; omega) _) | skip)
    exact ((((Below.refl _ w).alloc (Nat.le_refl _) _).alloc (by simp) _).alloc (by simp; omega) _)
  have d1 : w.heap.size + 1 + 1 + 1 ≤ c1 := by simpa using hl1
  clear hl1
  go_wp2_with fail
  refine (toLabel_any _ _ _ _ fc gc _ hnc (hcc.below ?_)).mono ?_
  · iterate 12 (first | (refine Below.setCell ?_ (by dsimp only; omega) _) | skip)
    exact B1
  rintro e w2 ⟨c2, rfl, hl2, r2, hb2⟩
  obtain ⟨q2, p2⟩ := bcell hb2
  have e2 : w1.heap.size ≤ w2.heap.size := by have := hb2.size; simpa using this
  have z2 : w.heap.size + 1 + 1 < w2.heap.size := by omega
  have z2' : w.heap.size + 1 < w2.heap.size := by omega
  have z2'' : w.heap.size < w2.heap.size := by omega
  have B2 : Below w.heap.size w w2 := by
    refine Below.trans ?_ (hb2.mono (by simp; omega))
    iterate 12 (first | (refine Below.setCell ?_ (by dsimp only; omega) _) | skip)
    exact B1
  have d2 : w1.heap.size ≤ c2 := by simpa using hl2
  have r1' : w2.rowIs c1 68 (nl * 2) (pairCell fl gl) := by
    refine World.rowIs.below ?_ hb2 (by have := r1.lt; simpa using this)
    iterate 12 (first | (refine World.rowIs.setOther ?_ (by dsimp only; omega) _) | skip)
    exact r1
  have lc : c1 < c2 := by have := r1.lt; omega
  clear hl2 hcl hcc r1
  go_wp2
  refine bodyPost_ret (v := .agg #[.int .i64 th, .int .i64 kind, .int .i64 id, .int .i64 to', .int .i64 cat, .string d, .int .i64 bl, .slice (some ⟨c1, 0, none⟩) nl nl, .int .i64 bc, .slice (some ⟨c2, 0, none⟩) nc nc]) (by simp [results, Tryd.results7, go_sem, *]) rfl ⟨c1, c2, rfl, by omega, lc, ?_, ?_, ?_⟩
  · iterate 16 (first | (refine World.rowIs.setOther ?_ (by dsimp only; omega) _) | skip)
    exact r1'
  · iterate 16 (first | (refine World.rowIs.setOther ?_ (by dsimp only; omega) _) | skip)
    exact r2
  · iterate 16 (first | (refine Below.setCell ?_ (by dsimp only; omega) _) | skip)
    exact B2

theorem toStep_any (th kind id to' cat : Int) (d : ByteArray) (bl : Int) (al : Option Addr) (nl kl : Nat) (fl gl : Nat → Int) (bc : Int) (ac : Option Addr) (nc kc : Nat) (fc gc : Nat → Int) (w : World)
    (hnl : nl ≤ 1048576) (hnc : nc ≤ 1048576) (hcl : CatsAt w al nl fl gl) (hcc : CatsAt w ac nc fc gc) :
    Calls Tryd.prog 7 #[.agg #[.int .i64 th, .int .i64 kind, .int .i64 id, .int .i64 to', .int .i64 cat, .string d, .int .i64 bl, .slice al nl kl, .int .i64 bc, .slice ac nc kc]] w fun e w' =>
      ∃ c1 c2, e = .returned (.agg #[.int .i64 th, .int .i64 kind, .int .i64 id, .int .i64 to', .int .i64 cat, .string d, .int .i64 bl, .slice (some ⟨c1, 0, none⟩) nl nl, .int .i64 bc, .slice (some ⟨c2, 0, none⟩) nc nc]) ∧
        w'.rowIs c1 68 (nl * 2) (pairCell fl gl) ∧ w'.rowIs c2 68 (nc * 2) (pairCell fc gc) ∧ Below w.heap.size w w' :=
  (toStep_new _ _ _ _ _ _ _ _ _ _ fl gl _ _ _ _ fc gc _ hnl hnc hcl hcc).mono fun _ _ ⟨c1, c2, he, _, _, h1, h2, h3⟩ => ⟨c1, c2, he, h1, h2, h3⟩

set_option maxHeartbeats 1000000 in
theorem eqStep_true (th kind id to' cat : Int) (d : ByteArray) (bl : Int) (al : Option Addr) (nl kl : Nat) (fl gl : Nat → Int) (bc : Int) (ac : Option Addr) (nc kc : Nat) (fc gc : Nat → Int)
    (al' : Option Addr) (kl' : Nat) (ac' : Option Addr) (kc' : Nat) (w : World)
    (hnl : nl ≤ maxLen) (hnc : nc ≤ maxLen) (hcl : CatsAt w al nl fl gl) (hcc : CatsAt w ac nc fc gc) (hdl : CatsAt w al' nl fl gl) (hdc : CatsAt w ac' nc fc gc) :
    Calls Tryd.prog 9 #[.agg #[.int .i64 th, .int .i64 kind, .int .i64 id, .int .i64 to', .int .i64 cat, .string d, .int .i64 bl, .slice al nl kl, .int .i64 bc, .slice ac nc kc], .agg #[.int .i64 th, .int .i64 kind, .int .i64 id, .int .i64 to', .int .i64 cat, .string d, .int .i64 bl, .slice al' nl kl', .int .i64 bc, .slice ac' nc kc']] w fun e w' =>
      e = .returned (.bool true) ∧ Below w.heap.size w w' := by
  have hb0 := ((Below.refl _ w).alloc (Nat.le_refl _) (.cells #[.int .i64 th, .int .i64 kind, .int .i64 id, .int .i64 to', .int .i64 cat, .string d, .int .i64 bl, .slice al nl kl, .int .i64 bc, .slice ac nc kc] 33)).alloc (by simp) (.cells #[.int .i64 th, .int .i64 kind, .int .i64 id, .int .i64 to', .int .i64 cat, .string d, .int .i64 bl, .slice al' nl kl', .int .i64 bc, .slice ac' nc kc'] 33)
  go_enter Tryd.func9, Tryd.ntmps9
  go_wp2_with fail
  refine (eqLabel_true _ _ _ _ _ _ fl gl _ hnl (hcl.below hb0) (hdl.below hb0)).mono ?_
  rintro e w1 ⟨rfl, hb1⟩
  obtain ⟨q1, _⟩ := bcell hb1
  have z1 : w.heap.size + 1 < w1.heap.size := by have := hb1.size; simp at this; omega
  have z1' : w.heap.size < w1.heap.size := by omega
  have B1 : Below w.heap.size w w1 := hb0.trans (hb1.mono (by simp; omega))
  go_wp2_with fail
  refine (eqLabel_true _ _ _ _ _ _ fc gc _ hnc (hcc.below B1) (hdc.below B1)).mono ?_
  rintro e w2 ⟨rfl, hb2⟩
  have B2 : Below w.heap.size w w2 := B1.trans (hb2.mono (by omega))
  clear hcl hcc hdl hdc
  go_wp2
  go_ret
  exact ⟨rfl, B2⟩
end Go.Proofs.YtcpphobokdkkeaaDoor
