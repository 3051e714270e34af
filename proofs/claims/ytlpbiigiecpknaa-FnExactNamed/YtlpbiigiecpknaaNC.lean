/- Named of the model and of the program answer the plain list namedL. -/
import Derived.Test.YtlpbiigiecpknaaNB
import Derived.Test.YtlpbiigiecpknaaHI
namespace Go.Proofs.Ytlpbiigiecpknaa
open Go.RowKit Go.Deep Go.Maps

def nz (x : Int) : List Int := if x = 0 then [] else [x]
/-- the objects that a step names -/
def namedL (ok : Bool) (id to' : Int) : List Int := if ok = true then nz id ++ nz to' else []
theorem namedL_len (ok : Bool) (id to' : Int) : (namedL ok id to').length ≤ 2 := by
  unfold namedL nz
  split
  · split <;> split <;> simp
  · simp

def NamedPost (l : List Int) (w : World) (e : Ending) (w' : World) : Prop := ∃ a k, e = .returned (.slice a l.length k) ∧ OwnI w' w.heap.size (.slice a l.length k) l ∧ Below w.heap.size w w'

theorem NamedPost.mk {l l' : List Int} {w w' : World} {a : Option Addr} {k : Nat} {e : Ending} (hl : l = l') (he : e = .returned (.slice a l'.length k)) (h : OwnI w' w.heap.size (.slice a l'.length k) l') (hb : Below w.heap.size w w') : NamedPost l w e w' := by
  subst hl
  exact ⟨a, k, he, h, hb⟩

theorem OwnI.mono {w : World} {B B' : Nat} {v : Value} {l : List Int} (h : OwnI w B v l) (hB : B' ≤ B) : OwnI w B' v l := by
  obtain ⟨h1, h2⟩ := h
  refine ⟨h1, ?_⟩
  rcases h2 with h2 | ⟨g, cap, cur, hv, hbg, hr⟩
  · exact .inl h2
  · exact .inr ⟨g, cap, cur, hv, Nat.le_trans hB hbg, hr⟩

theorem OwnI.below {w w' : World} {B : Nat} {v : Value} {l : List Int} (h : OwnI w B v l) (hb : Below w.heap.size w w') : OwnI w' B v l := by
  obtain ⟨h1, h2⟩ := h
  refine ⟨h1, ?_⟩
  rcases h2 with h2 | ⟨g, cap, cur, hv, hbg, hg, hr⟩
  · exact .inl h2
  · exact .inr ⟨g, cap, cur, hv, hbg, (hb.block g (Array.getElem?_eq_some_iff.1 hg).1).trans hg, hr⟩

theorem stepOk_signs (th kind id to' cat : Int) (d : ByteArray) (bl : Int) (nl : Nat) (fl gl : Nat → Int) (bc : Int) (nc : Nat) (fc gc : Nat → Int) (h : stepOk th kind id to' cat d bl nl fl gl bc nc fc gc = true) : 0 ≤ id ∧ 0 ≤ to' := by
  unfold stepOk stepC at h
  simp only [Bool.and_eq_true] at h
  obtain ⟨⟨⟨_, h1⟩, h2⟩, _⟩ := h
  have aux : ∀ (x : Int) (u : Bool), numB x u = true → 0 ≤ x := by
    intro x u hx
    cases u <;> simp [numB, inB] at hx <;> omega
  exact ⟨aux _ _ h1, aux _ _ h2⟩

set_option maxRecDepth 100000 in
set_option maxHeartbeats 2000000 in
theorem specNamed_any (th kind id to' cat : Int) (d : ByteArray) (bl : Int) (al : Option Addr) (nl kl : Nat) (fl gl : Nat → Int) (bc : Int) (ac : Option Addr) (nc kc : Nat) (fc gc : Nat → Int) (w : World) (hd : d.size ≤ maxLen) (hnl : nl ≤ maxLen) (hnc : nc ≤ maxLen) (hcl : CatsAt w al nl fl gl) (hcc : CatsAt w ac nc fc gc) :
    Calls Try.prog 16 #[.agg #[.int .i64 th, .int .i64 kind, .int .i64 id, .int .i64 to', .int .i64 cat, .string d, .int .i64 bl, .slice al nl kl, .int .i64 bc, .slice ac nc kc]] w (NamedPost (namedL (stepOk th kind id to' cat d bl nl fl gl bc nc fc gc) id to') w) := by
  have L0 := (Below.refl _ w).alloc (Nat.le_refl _) (.cells #[.int .i64 th, .int .i64 kind, .int .i64 id, .int .i64 to', .int .i64 cat, .string d, .int .i64 bl, .slice al nl kl, .int .i64 bc, .slice ac nc kc] 42)
  have A0 := Blk.new w (.cells #[.int .i64 th, .int .i64 kind, .int .i64 id, .int .i64 to', .int .i64 cat, .string d, .int .i64 bl, .slice al nl kl, .int .i64 bc, .slice ac nc kc] 42)
  have L1 := L0.alloc (by simp) (.cells #[] 2)
  have A1 := A0.alloc (.cells #[] 2)
  have sz : (w.alloc (.cells #[.int .i64 th, .int .i64 kind, .int .i64 id, .int .i64 to', .int .i64 cat, .string d, .int .i64 bl, .slice al nl kl, .int .i64 bc, .slice ac nc kc] 42)).heap.size = w.heap.size + 1 := by simp
  have O1 := OwnI.made (w.alloc (.cells #[.int .i64 th, .int .i64 kind, .int .i64 id, .int .i64 to', .int .i64 cat, .string d, .int .i64 bl, .slice al nl kl, .int .i64 bc, .slice ac nc kc] 42)) (w.heap.size + 1) (by simp)
  rw [sz] at O1
  clear sz
  have hsg := stepOk_signs th kind id to' cat d bl nl fl gl bc nc fc gc
  have HSP : Hid (∀ v : World, Below w.heap.size w v → Calls Try.prog 12 #[.agg #[.int .i64 th, .int .i64 kind, .int .i64 id, .int .i64 to', .int .i64 cat, .string d, .int .i64 bl, .slice al nl kl, .int .i64 bc, .slice ac nc kc]] v fun e w' => e = .returned (.bool (stepOk th kind id to' cat d bl nl fl gl bc nc fc gc)) ∧ Below v.heap.size v w') := fun v hv => specStep_any _ _ _ _ _ _ _ _ _ _ fl gl _ _ _ _ fc gc v hd hnl hnc (hcl.below hv) (hcc.below hv)
  generalize stepOk th kind id to' cat d bl nl fl gl bc nc fc gc = so at *
  clear hcl hcc hd hnl hnc
  go_enter Try.func16, Try.ntmps16
  obtain ⟨x0, x1, x2, x3, x4, x5, x6, x7, x8, x9⟩ := A1.ten
  go_wp2_with fail
  refine (HSP.out _ L1).mono ?_
  rintro e w1 ⟨rfl, hb1⟩
  have A2 := A1.below hb1
  have L2 : Below w.heap.size w w1 := L1.trans (hb1.mono L1.size)
  have O2 := OwnI.below O1 hb1
  clear x0 x1 x2 x3 x4 x5 x6 x7 x8 x9 HSP A0 A1 L0 L1 O1
  cases so with
  | false =>
    go_wp2
    go_ret
    exact NamedPost.mk (l' := []) rfl rfl (OwnI.mono O2 (Nat.le_succ _)) L2
  | true =>
    obtain ⟨s1, s2⟩ := hsg rfl
    clear hsg hb1
    obtain ⟨x0, x1, x2, x3, x4, x5, x6, x7, x8, x9⟩ := A2.ten
    have nA : ∀ v : Value, ∀ l : List Int, ∀ W : World, OwnI W (w.heap.size + 1) v l → some w.heap.size ≠ v.ownBlock := fun v l W h e => by have := (World.ownsRow.lt h w.heap.size e.symm).1; omega
    have sL : w.heap.size + 1 ≤ w1.heap.size := A2.lt
    by_cases i1 : 0 < id
    · have hid : id ≠ 0 := by omega
      have e1 : namedL true id to' = id :: nz to' := by simp [namedL, nz, hid]
      by_cases i2 : 0 < to'
      · have e2 : namedL true id to' = [id, to'] := by rw [e1]; simp [nz]; omega
        go_wp2_with (first | (at_builtin; have hq := O3; clear hq; refine wpList_append_intsR _ rfl _ _ rfl (w.heap.size + 1) _ [id] rfl (O3.alloc _) _ _ _ [to'] rfl rfl (IntL.one to') [id, to'] rfl (by simp) (Nat.le_trans (A3.lt) (by simp)) ?_; intro a4 c4 w4 O4 G4 at4) | (at_builtin; refine wpList_append_intsR _ rfl _ _ rfl (w.heap.size + 1) _ [] rfl (O2.alloc _) _ _ _ [id] rfl rfl (IntL.one id) [id] rfl (by simp) (Nat.le_trans sL (by simp)) ?_; intro a3 c3 w3 O3 G3 at3; have A3 := (A2.alloc (.cells #[.int .i64 id] 2)).grown G3 (nA _ _ _ (O2.alloc (.cells #[.int .i64 id] 2))); obtain ⟨y0, y1, y2, y3, y4, y5, y6, y7, y8, y9⟩ := A3.ten))
        have L3 : Below w.heap.size w w3 := (L2.alloc L2.size _).grown G3 (Nat.le_trans L2.size (by simp)) (fun k hk => by have := (World.ownsRow.lt (O2.alloc (.cells #[.int .i64 id] 2)) k hk).1; omega)
        have L4 : Below w.heap.size w w4 := (L3.alloc L3.size _).grown G4 (Nat.le_trans L3.size (by simp)) (fun k hk => by have := (World.ownsRow.lt (O3.alloc (.cells #[.int .i64 to'] 2)) k hk).1; omega)
        go_ret
        exact NamedPost.mk e2 rfl (OwnI.mono O4 (Nat.le_succ _)) L4
      · have e2 : namedL true id to' = [id] := by rw [e1]; simp [nz]; omega
        go_wp2_with (at_builtin; refine wpList_append_intsR _ rfl _ _ rfl (w.heap.size + 1) _ [] rfl (O2.alloc _) _ _ _ [id] rfl rfl (IntL.one id) [id] rfl (by simp) (Nat.le_trans sL (by simp)) ?_; intro a3 c3 w3 O3 G3 at3; have A3 := (A2.alloc (.cells #[.int .i64 id] 2)).grown G3 (nA _ _ _ (O2.alloc (.cells #[.int .i64 id] 2))); obtain ⟨y0, y1, y2, y3, y4, y5, y6, y7, y8, y9⟩ := A3.ten)
        have L3 : Below w.heap.size w w3 := (L2.alloc L2.size _).grown G3 (Nat.le_trans L2.size (by simp)) (fun k hk => by have := (World.ownsRow.lt (O2.alloc (.cells #[.int .i64 id] 2)) k hk).1; omega)
        go_ret
        exact NamedPost.mk e2 rfl (OwnI.mono O3 (Nat.le_succ _)) L3
    · have e1 : namedL true id to' = nz to' := by simp [namedL, nz]; omega
      by_cases i2 : 0 < to'
      · have e2 : namedL true id to' = [to'] := by rw [e1]; simp [nz]; omega
        go_wp2_with (at_builtin; refine wpList_append_intsR _ rfl _ _ rfl (w.heap.size + 1) _ [] rfl (O2.alloc _) _ _ _ [to'] rfl rfl (IntL.one to') [to'] rfl (by simp) (Nat.le_trans sL (by simp)) ?_; intro a3 c3 w3 O3 G3 at3; have A3 := (A2.alloc (.cells #[.int .i64 to'] 2)).grown G3 (nA _ _ _ (O2.alloc (.cells #[.int .i64 to'] 2))); obtain ⟨y0, y1, y2, y3, y4, y5, y6, y7, y8, y9⟩ := A3.ten)
        have L3 : Below w.heap.size w w3 := (L2.alloc L2.size _).grown G3 (Nat.le_trans L2.size (by simp)) (fun k hk => by have := (World.ownsRow.lt (O2.alloc (.cells #[.int .i64 to'] 2)) k hk).1; omega)
        go_ret
        exact NamedPost.mk e2 rfl (OwnI.mono O3 (Nat.le_succ _)) L3
      · have e2 : namedL true id to' = [] := by rw [e1]; simp [nz]; omega
        go_wp2
        go_ret
        exact NamedPost.mk e2 rfl (OwnI.mono O2 (Nat.le_succ _)) L2

/-- the named ones among the first k of the two -/
def namedK (id to' : Int) : Nat → List Int
  | 0 => []
  | 1 => nz id
  | _ => nz id ++ nz to'
theorem nz_len (x : Int) : (nz x).length ≤ 1 := by unfold nz; split <;> simp

set_option maxRecDepth 100000 in
set_option maxHeartbeats 2000000 in
theorem implNamed_any (th kind id to' cat : Int) (d : ByteArray) (bl : Int) (al : Option Addr) (nl kl : Nat) (fl gl : Nat → Int) (bc : Int) (ac : Option Addr) (nc kc : Nat) (fc gc : Nat → Int) (w : World) (hd : d.size ≤ maxLen) (hnl : nl ≤ maxLen) (hnc : nc ≤ maxLen) (hcl : CatsAt w al nl fl gl) (hcc : CatsAt w ac nc fc gc) :
    Calls Try.prog 17 #[.agg #[.int .i64 th, .int .i64 kind, .int .i64 id, .int .i64 to', .int .i64 cat, .string d, .int .i64 bl, .slice al nl kl, .int .i64 bc, .slice ac nc kc]] w (NamedPost (namedL (stepOk th kind id to' cat d bl nl fl gl bc nc fc gc) id to') w) := by
  have L0 := (Below.refl _ w).alloc (Nat.le_refl _) (.cells #[.int .i64 th, .int .i64 kind, .int .i64 id, .int .i64 to', .int .i64 cat, .string d, .int .i64 bl, .slice al nl kl, .int .i64 bc, .slice ac nc kc] 42)
  have A0 := Blk.new w (.cells #[.int .i64 th, .int .i64 kind, .int .i64 id, .int .i64 to', .int .i64 cat, .string d, .int .i64 bl, .slice al nl kl, .int .i64 bc, .slice ac nc kc] 42)
  have HSP : Hid (∀ v : World, Below w.heap.size w v → Calls Try.prog 14 #[.agg #[.int .i64 th, .int .i64 kind, .int .i64 id, .int .i64 to', .int .i64 cat, .string d, .int .i64 bl, .slice al nl kl, .int .i64 bc, .slice ac nc kc]] v fun e w' => e = .returned (.bool (stepOk th kind id to' cat d bl nl fl gl bc nc fc gc)) ∧ Below v.heap.size v w') := fun v hv => implStep_any _ _ _ _ _ _ _ _ _ _ fl gl _ _ _ _ fc gc v hd hnl hnc (hcl.below hv) (hcc.below hv)
  generalize stepOk th kind id to' cat d bl nl fl gl bc nc fc gc = so at *
  clear hcl hcc hd hnl hnc
  go_enter Try.func17, Try.ntmps17
  obtain ⟨x0, x1, x2, x3, x4, x5, x6, x7, x8, x9⟩ := A0.ten
  go_wp2_with fail
  refine (HSP.out _ L0).mono ?_
  rintro e w1 ⟨rfl, hb1⟩
  have A2 := A0.below hb1
  have L2 : Below w.heap.size w w1 := L0.trans (hb1.mono L0.size)
  clear x0 x1 x2 x3 x4 x5 x6 x7 x8 x9 HSP A0 L0 hb1
  cases so with
  | false =>
    go_wp2
    go_ret
    exact NamedPost.mk (l' := []) rfl rfl (OwnI.nil _ _) L2
  | true =>
    obtain ⟨x0, x1, x2, x3, x4, x5, x6, x7, x8, x9⟩ := A2.ten
    have sL : w.heap.size + 1 ≤ w1.heap.size := A2.lt
    go_wp2
    go_loopw [3, 15] (fun v i wr => ∃ k : Nat, k ≤ 2 ∧ i = .int .i64 k ∧ OwnI wr (w1.heap.size + 1) v (namedK id to' k) ∧ Below w.heap.size w wr ∧ Blk wr w1.heap.size (.cells #[.int .i64 id, .int .i64 to'] 2)) (fun _ i _ => 2 - (intOf i).toNat)
    case atStart => exact ⟨0, by omega, rfl, OwnI.nil _ _, L2.alloc L2.size _, Blk.new _ _⟩
    case round =>
      obtain ⟨k, hk, rfl, O, Lr, Br⟩ := hrel
      obtain ⟨g0, g1⟩ := Br.two
      obtain ⟨va, vc, ev⟩ := ownsRow_shape O
      subst ev
      have hk3 : k = 0 ∨ k = 1 ∨ k = 2 := by omega
      rcases hk3 with rfl | rfl | rfl
      · by_cases z : id = 0
        · have e1 : namedK id to' 1 = namedK id to' 0 := by simp [namedK, nz, z]
          go_wp2
          go_roundw
          case rel => exact ⟨1, by omega, by go_num, e1 ▸ O, Lr, Br⟩
          case measure => simp [intOf]
        · have e1 : namedK id to' 1 = namedK id to' 0 ++ [id] := by simp [namedK, nz, z]
          have el : (namedK id to' 0 ++ [id]).length ≤ 4194304 := by simp [namedK]
          go_wp2_with (at_builtin; refine wpList_append_intsR _ rfl _ _ rfl (w1.heap.size + 1) _ (namedK id to' 0) rfl (O.alloc _) _ _ _ [id] rfl rfl (IntL.one id) (namedK id to' 0 ++ [id]) rfl el (Nat.le_trans Br.lt (by simp)) ?_; intro a3 c3 w3 O3 G3 at3)
          have hrow := World.ownsRow.lt (O.alloc (.cells #[.int .i64 id] 2))
          have L3 : Below w.heap.size w w3 := (Lr.alloc Lr.size _).grown G3 (Nat.le_trans Lr.size (by simp)) (fun k hk => by have := (hrow k hk).1; omega)
          have B3 := (Br.alloc (.cells #[.int .i64 id] 2)).grown G3 (fun e => by have := (hrow _ e.symm).1; omega)
          go_roundw
          case rel => exact ⟨1, by omega, by go_num, e1 ▸ O3, L3, B3⟩
          case measure => simp [intOf]
      · by_cases z : to' = 0
        · have e1 : namedK id to' 2 = namedK id to' 1 := by simp [namedK, nz, z]
          go_wp2
          go_roundw
          case rel => exact ⟨2, by omega, by go_num, e1 ▸ O, Lr, Br⟩
          case measure => simp [intOf]
        · have e1 : namedK id to' 2 = namedK id to' 1 ++ [to'] := by simp [namedK, nz, z]
          have el : (namedK id to' 1 ++ [to']).length ≤ 4194304 := by have := nz_len id; rw [List.length_append]; simp only [namedK, List.length_singleton]; omega
          go_wp2_with (at_builtin; refine wpList_append_intsR _ rfl _ _ rfl (w1.heap.size + 1) _ (namedK id to' 1) rfl (O.alloc _) _ _ _ [to'] rfl rfl (IntL.one to') (namedK id to' 1 ++ [to']) rfl el (Nat.le_trans Br.lt (by simp)) ?_; intro a3 c3 w3 O3 G3 at3)
          have hrow := World.ownsRow.lt (O.alloc (.cells #[.int .i64 to'] 2))
          have L3 : Below w.heap.size w w3 := (Lr.alloc Lr.size _).grown G3 (Nat.le_trans Lr.size (by simp)) (fun k hk => by have := (hrow k hk).1; omega)
          have B3 := (Br.alloc (.cells #[.int .i64 to'] 2)).grown G3 (fun e => by have := (hrow _ e.symm).1; omega)
          go_roundw
          case rel => exact ⟨2, by omega, by go_num, by rw [e1]; simpa only [List.length_append, List.length_singleton] using O3, L3, B3⟩
          case measure => simp [intOf]
      · go_wp2
        go_ret
        exact NamedPost.mk (l' := namedK id to' 2) rfl rfl (OwnI.mono O (by omega)) Lr
end Go.Proofs.Ytlpbiigiecpknaa
