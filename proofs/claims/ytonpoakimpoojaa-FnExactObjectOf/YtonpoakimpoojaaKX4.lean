/- Copies that the model makes: labels, threads. -/
import Derived.Test.YtonpoakimpoojaaKX3
import Derived.Test.YtonpoakimpoojaaKB8
namespace Go.Proofs.Ytonpoakimpoojaa
open Go Go.RowKit Go.Deep Go.Maps Go.BigFrame Go.Shelf

theorem results72 (tmps : Array Value) (W : World) (P : Nat) (x y : Value) (h : Blk W P (.cells #[x, y] 37)) (h2 : tmps[2]? = some (.pointer (some ⟨P, 0, none⟩))) :
    (results Try.f72 tmps).run Try.prog W = .ok (.agg #[x, y]) W := by
  obtain ⟨z0, z1⟩ := h.two
  simp [results, Try.results72, go_sem, h2, z0, z1]
theorem OwnCats.madeAt (w : World) (B : Nat) (hb : B ≤ w.heap.size) (f g : Nat → Int) : OwnCats (w.alloc (.cells #[] 112)) B (.slice (some ⟨w.heap.size, 0, none⟩) 0 0) 0 f g := World.ownsRow_made w #[] 0 hb (Nat.zero_le _) rfl
theorem OwnCats.newL {w : World} {B n c : Nat} {a : Option Addr} {f g : Nat → Int} (h : OwnCats w B (.slice a n c) n f g) (hn : n ≤ 1048576) : CatL.new B w ⟨a, n, c, f, g⟩ :=
  ⟨⟨by unfold maxLen; simp only; omega, h.cats⟩, fun h0 => row_of_own h h0⟩

set_option maxRecDepth 100000 in
set_option maxHeartbeats 4000000 in
theorem l3CopyLabel_any (b : Int) (c : CatL) (w : World) (hc : c.at w) (hn : c.n ≤ 1048576) :
    Calls Try.prog 72 #[.agg #[.int .i64 b, c.val]] w fun e w' => ∃ d : CatL, e = .returned (.agg #[.int .i64 b, d.val]) ∧ c.same d ∧ d.new w.heap.size w' ∧ Below w.heap.size w w' := by
  obtain ⟨a, n, cap, f, g⟩ := c
  unfold CatL.val
  simp only at hn ⊢
  have b0 : Below w.heap.size w ((w.alloc (.cells #[.int .i64 b, .slice a n cap] 37)).alloc (.cells #[.int .i64 0, .slice none 0 0] 37)) := ((Below.refl _ w).alloc (Nat.le_refl _) _).alloc (by simp) _
  have A0 := (Blk.new w (.cells #[.int .i64 b, .slice a n cap] 37)).alloc (.cells #[.int .i64 0, .slice none 0 0] 37)
  have R0 : Blk ((w.alloc (.cells #[.int .i64 b, .slice a n cap] 37)).alloc (.cells #[.int .i64 0, .slice none 0 0] 37)) (w.heap.size + 1) (.cells #[.int .i64 0, .slice none 0 0] 37) := by
    have := Blk.new (w.alloc (.cells #[.int .i64 b, .slice a n cap] 37)) (.cells #[.int .i64 0, .slice none 0 0] 37)
    simpa using this
  have T0 := hid (hc.below b0).2
  simp only at T0
  obtain ⟨x0, x1⟩ := A0.two
  clear hc
  go_enter Try.func72, Try.ntmps72
  go_wp2
  generalize hV : ((w.alloc (.cells #[.int .i64 b, .slice a n cap] 37)).alloc (.cells #[.int .i64 0, .slice none 0 0] 37)) = V at *
  have bm : Below V.heap.size V ((V.alloc (.cells #[] 112)).drew) := below_drew ((Below.refl _ V).alloc (Nat.le_refl _) _)
  have OM : Hid (OwnCats ((V.alloc (.cells #[] 112)).drew) w.heap.size (.slice (some ⟨V.heap.size, 0, none⟩) 0 0) 0 f g) := hid (OwnCats.madeAt V w.heap.size b0.size f g)
  have TM := hid (T0.out.below bm)
  have s1 : w.heap.size ≤ ((V.alloc (.cells #[] 112)).drew).heap.size := (then_ b0 bm).size
  have lm : n ≤ 4194304 := by omega
  have R1 := hid (R0.below bm)
  have B1 := hid (then_ b0 bm)
  obtain ⟨y0, y1⟩ := (A0.alloc (.cells #[] 112)).two
  have px : ¬ w.heap.size = V.heap.size := by have := A0.lt; omega
  have vlt : w.heap.size + 1 < V.heap.size := R0.lt
  have RG : Hid (∀ w3 : World, ((V.alloc (.cells #[] 112)).drew).grownBy w3 (some V.heap.size) → Blk w3 (w.heap.size + 1) (.cells #[.int .i64 0, .slice none 0 0] 37)) := hid (fun w3 g3 => R1.out.grown g3 (by simp; omega))
  have A1 := hid (A0.below bm)
  have AG : Hid (∀ w3 : World, ((V.alloc (.cells #[] 112)).drew).grownBy w3 (some V.heap.size) → Blk w3 w.heap.size (.cells #[.int .i64 b, .slice a n cap] 37)) := hid (fun w3 g3 => A1.out.grown g3 (by simp; omega))
  clear hV bm A0 R0 T0
  go_region_law (refine step_append_cats0 _ (by rfl) _ _ (by rfl) w.heap.size (.slice (some ⟨V.heap.size, 0, none⟩) 0 0) f g (by rfl) OM.out a n cap f g (by rfl) TM.out lm s1 ?_; intro a3 c3 w3 o3 g3 v3; have O3 := hid o3; have G3 := hid g3; have RR := hid (RG.out w3 g3); obtain ⟨r0, r1⟩ := RR.out.two; have rf := RR.out.warm; obtain ⟨q0, q1⟩ := (AG.out w3 g3).two; clear o3 g3 v3)
  all_goals (
    have B3 : Hid (Below w.heap.size w w3) := hid (B1.out.trans (below_grown G3.out B1.out.size (fun j hj => by cases hj; show w.heap.size ≤ V.heap.size; omega)))
    have N3 := hid (O3.out.newL hn)
    clear G3 O3 OM TM RG x0 x1 y0 y1 q0 q1 AG A1
    go_wp2
    refine bodyPost_ret (results72 _ _ (w.heap.size + 1) (.int .i64 b) (.slice a3 n c3) ((RR.out.setAt (i := 0) _).setAt (i := 1) _) rfl) rfl ⟨⟨a3, n, c3, f, g⟩, rfl, ⟨rfl, rfl, rfl⟩, ?_, ?_⟩
    · refine N3.out.of (by simp) (fun q hq hn' => ?_)
      have q2 := N3.out.ne RR.out (by decide) q hq hn'
      iterate 2 rw [blk_setCell_other _ _ _ _ (by dsimp only; omega)]
    · iterate 2 refine Below.setCell ?_ (by dsimp only; omega) _
      exact B3.out)
end Go.Proofs.Ytonpoakimpoojaa
