/- StepText of the program. -/
import Derived.Test.YthbmfbnnemgbpaaGreatDoorZ14
import Derived.Test.YthbmfbnnemgbpaaGreatDoorZ11
import Derived.Test.YthbmfbnnemgbpaaGreatDoorZ9
namespace Go.Proofs.YthbmfbnnemgbpaaGreatDoor
open Go Go.RowKit Go.Deep Go.Maps Go.BigFrame
def nth5 (a b c d e : Int) : Nat → Int
 | 0 => a
 | 1 => b
 | 2 => c
 | 3 => d
 | _ => e
theorem nth5_at {W : World} (a b c d e : Int) : ∀ i, i < 5 → (W.alloc (.cells #[.int .i64 a, .int .i64 b, .int .i64 c, .int .i64 d, .int .i64 e] 2)).cell? ⟨W.heap.size, i, none⟩ = some (.int .i64 (nth5 a b c d e i)) := fun i hi => by
 match i, hi with
 | 0, _ => simp [nth5]
 | 1, _ => simp [nth5]
 | 2, _ => simp [nth5]
 | 3, _ => simp [nth5]
 | 4, _ => simp [nth5]
set_option maxRecDepth 100000 in
set_option maxHeartbeats 4000000 in
theorem implStepText_any (th kind id to' cat : Int) (d : ByteArray) (bl : Int) (al : Option Addr) (nl kl : Nat) (fl gl : Nat → Int) (bc : Int) (ac : Option Addr) (nc kc : Nat) (fc gc : Nat → Int) (w : World) (hd : d.size ≤ maxLen) (hnl : nl ≤ maxLen) (hnc : nc ≤ maxLen) (hcl : CatsAt w al nl fl gl) (hcc : CatsAt w ac nc fc gc) (ht : Tab w) :
 Calls Tryz.prog 6 #[.agg #[.int .i64 th, .int .i64 kind, .int .i64 id, .int .i64 to', .int .i64 cat, .string d, .int .i64 bl, .slice al nl kl, .int .i64 bc, .slice ac nc kc]] w fun e w' => e = .returned (.string (stepA th kind id to' cat d bl nl fl gl bc nc fc gc)) ∧ Below w.heap.size w w' := by
 have L0 := (Below.refl _ w).alloc (Nat.le_refl _) (.cells #[.int .i64 th, .int .i64 kind, .int .i64 id, .int .i64 to', .int .i64 cat, .string d, .int .i64 bl, .slice al nl kl, .int .i64 bc, .slice ac nc kc] 28)
 have A0 := Blk.new w (.cells #[.int .i64 th, .int .i64 kind, .int .i64 id, .int .i64 to', .int .i64 cat, .string d, .int .i64 bl, .slice al nl kl, .int .i64 bc, .slice ac nc kc] 28)
 have P19 := hid (implStep_any th kind id to' cat d bl al nl kl fl gl bc ac nc kc fc gc _ hd hnl hnc (hcl.below L0) (hcc.below L0))
 cases ok : stepOk th kind id to' cat d bl nl fl gl bc nc fc gc with
 | false =>
  have E : Hid (stepA th kind id to' cat d bl nl fl gl bc nc fc gc = ⟨#[]⟩) := by show _ = _; rw [stepA, if_neg (by rw [ok]; decide)]
  rw [ok] at P19
  obtain ⟨c0, c1, c2, c3, c4, c5, c6, c7, c8, c9⟩ := A0.ten
  clear ok hcl hcc ht
  go_enter Tryz.func6, Tryz.ntmps6
  go_wp2_with (go_at_call 9; refine P19.out.mono ?_; rintro e w1 ⟨rfl, h1⟩)
  go_ret
  exact ⟨ret_str E.out.symm, then_ L0 h1⟩
 | true =>
  have E : Hid (stepA th kind id to' cat d bl nl fl gl bc nc fc gc = stepT (decB th) (decB kind) (decB id) (decB to') (decB cat) ⟨(txt bl (catsTo fl gl nl)).toArray⟩ ⟨(txt bc (catsTo fc gc nc)).toArray⟩ d) := by show _ = _; rw [stepA, if_pos ok]
  rw [ok] at P19
  obtain ⟨⟨t0, t1⟩, ⟨k0, k1⟩, ⟨i0, i1⟩, ⟨o0, o1⟩, ⟨g0, g1⟩, hd40, hl, hc⟩ := step_is th kind id to' cat d bl nl fl gl bc nc fc gc ok
  obtain ⟨sl, _⟩ := labB_size hl
  obtain ⟨sc, _⟩ := labB_size hc
  have PL : Hid (∀ W, Below w.heap.size w W → Calls Tryz.prog 17 #[.agg #[.int .i64 bl, .slice al nl kl]] W fun e w' => ∃ v, e = .returned v ∧ v = .string ⟨(txt bl (catsTo fl gl nl)).toArray⟩ ∧ Below W.heap.size W w') := fun W hW => (implText_any bl al nl kl fl gl W hnl (hcl.below hW) (ht.below hW)).mono fun e w' ⟨he, hb⟩ => ⟨_, he, by rw [ltext, if_pos hl], hb⟩
  have PC : Hid (∀ W, Below w.heap.size w W → Calls Tryz.prog 17 #[.agg #[.int .i64 bc, .slice ac nc kc]] W fun e w' => ∃ v, e = .returned v ∧ v = .string ⟨(txt bc (catsTo fc gc nc)).toArray⟩ ∧ Below W.heap.size W w') := fun W hW => (implText_any bc ac nc kc fc gc W hnc (hcc.below hW) (ht.below hW)).mono fun e w' ⟨he, hb⟩ => ⟨_, he, by rw [ltext, if_pos hc], hb⟩
  have rng : ∀ i, i < 5 → 0 ≤ nth5 th kind id to' cat i ∧ nth5 th kind id to' cat i ≤ 10000000000 := fun i hi => by
   match i, hi with
   | 0, _ => exact ⟨t0, by show th ≤ _; omega⟩
   | 1, _ => exact ⟨k0, by show kind ≤ _; omega⟩
   | 2, _ => exact ⟨i0, by show id ≤ _; omega⟩
   | 3, _ => exact ⟨o0, by show to' ≤ _; omega⟩
   | 4, _ => exact ⟨g0, by show cat ≤ _; omega⟩
  have P20 : Hid (∀ W, Below w.heap.size w W → Calls Tryz.prog 16 #[.slice (some ⟨W.heap.size, 0, none⟩) 5 5] (W.alloc (.cells #[.int .i64 th, .int .i64 kind, .int .i64 id, .int .i64 to', .int .i64 cat] 2)) fun e w' => ∃ a c, e = .returned (.slice a 5 c) ∧ OwnS w' W.heap.size (.slice a 5 c) [decB th, decB kind, decB id, decB to', decB cat] ∧ Below W.heap.size W w') := fun W hW => by
   have LA := (Below.refl _ W).alloc (Nat.le_refl _) (.cells #[.int .i64 th, .int .i64 kind, .int .i64 id, .int .i64 to', .int .i64 cat] 2)
   refine (decimals_any W.heap.size 5 5 (nth5 th kind id to' cat) _ (by decide) (by rw [World.size_alloc]; omega) (nth5_at th kind id to' cat) rng (ht.below (hW.trans (LA.mono hW.size)))).mono ?_
   rintro e w' ⟨a, c, he, hO, hb⟩
   refine ⟨a, c, he, ?_, LA.trans (hb.mono LA.size)⟩
   have hx : OwnS w' (W.alloc (.cells #[.int .i64 th, .int .i64 kind, .int .i64 id, .int .i64 to', .int .i64 cat] 2)).heap.size (.slice a 5 c) [decB th, decB kind, decB id, decB to', decB cat] := hO
   refine ⟨hx.1, ?_⟩
   rcases hx.2 with h1 | ⟨g, cap, cur, h1, h2, h3⟩
   ·exact .inl h1
   ·exact .inr ⟨g, cap, cur, h1, by rw [World.size_alloc] at h2; omega, h3⟩
  have s1 := decB_size th t1
  have s2 := decB_size kind k1
  have s3 := decB_size id i1
  have s4 := decB_size to' o1
  have s5 := decB_size cat g1
  clear ok hcl hcc hl hc t0 t1 k0 k1 i0 i1 o0 o1 g0 g1 rng ht
  generalize decB th = X1 at *
  generalize decB kind = X2 at *
  generalize decB id = X3 at *
  generalize decB to' = X4 at *
  generalize decB cat = X5 at *
  generalize (⟨(txt bl (catsTo fl gl nl)).toArray⟩ : ByteArray) = X6 at *
  generalize (⟨(txt bc (catsTo fc gc nc)).toArray⟩ : ByteArray) = X7 at *
  have JS : Hid ((Lib.join ([X1, X2, X3, X4, X5, X6, X7, d].map (·.data.toList)) (⟨#[32]⟩ : ByteArray).data.toList).length ≤ 140737488355328) := by
   have e := congrArg ByteArray.size (stepT_join X1 X2 X3 X4 X5 X6 X7 d)
   rw [size_of] at e
   show _ ≤ _
   rw [e, stepT]
   simp only [ByteArray.size_append]
   have : (⟨#[32]⟩ : ByteArray).size = 1 := rfl
   omega
  obtain ⟨c0, c1, c2, c3, c4, c5, c6, c7, c8, c9⟩ := A0.ten
  have HA := hid (fun W (hW : Below (w.alloc (.cells #[.int .i64 th, .int .i64 kind, .int .i64 id, .int .i64 to', .int .i64 cat, .string d, .int .i64 bl, .slice al nl kl, .int .i64 bc, .slice ac nc kc] 28)).heap.size (w.alloc (.cells #[.int .i64 th, .int .i64 kind, .int .i64 id, .int .i64 to', .int .i64 cat, .string d, .int .i64 bl, .slice al nl kl, .int .i64 bc, .slice ac nc kc] 28)) W) => (A0.below hW))
  have HL := hid L0
  clear A0 L0 s1 s2 s3 s4 s5 sl sc
  go_enter Tryz.func6, Tryz.ntmps6
  go_wp2_with (first
   | (go_at_call 9; refine P19.out.mono ?_; rintro e w1 ⟨rfl, h1⟩; clear c0 c1 c2 c3 c4 c5 c6 c7 c8 c9; obtain ⟨c0, c1, c2, c3, c4, c5, c6, c7, c8, c9⟩ := (HA.out _ h1).ten)
   | (go_at_call 16; refine (P20.out _ (then_ HL.out h1)).mono ?_; rintro e w2 ⟨a2, k2, rfl, o2, h2⟩))
  have O2 := hid o2
  have B2 := hid (then_ h1 h2)
  have L2 := hid (then_ HL.out B2.out)
  have le1 := hid h2.size
  clear c0 c1 c2 c3 c4 c5 c6 c7 c8 c9 o2
  obtain ⟨c0, c1, c2, c3, c4, c5, c6, c7, c8, c9⟩ := (HA.out _ B2.out).ten
  have B2d := hid (B2.out.drew)
  have L2d := hid (L2.out.drew)
  have EG := enters_of Tryz.func17 (by kernel_rfl) rfl
  have LM : ([X1, X2, X3, X4, X5] : List ByteArray).length ≤ 2000000 := by simp
  have FIN : Hid (∀ g5 k5 w5 B, OwnS w5 B (.slice (some ⟨g5, 0, none⟩) ([X1, X2, X3, X4, X5] ++ [X6, X7, d]).length k5) ([X1, X2, X3, X4, X5] ++ [X6, X7, d]) → Calls Tryz.prog 18 #[.slice (some ⟨g5, 0, none⟩) 8 k5, .string ⟨#[32]⟩] w5 fun e w' => e = .returned (.string (stepT X1 X2 X3 X4 X5 X6 X7 d)) ∧ Below w5.heap.size w5 w') := fun g5 k5 w5 B ho => by
   have ho' : OwnS w5 B (.slice (some ⟨g5, 0, none⟩) 8 k5) [X1, X2, X3, X4, X5, X6, X7, d] := ho
   have lt5 := (World.ownsRow.lt ho' g5 rfl).2
   have cap5 : 8 ≤ k5 := by
    rcases ho'.2 with ⟨hv, _⟩ | ⟨g', cap, cur, hv, _, hh, hnc, _⟩
    ·simp at hv
    ·simp only [Value.slice.injEq] at hv
     obtain ⟨_, _, rfl⟩ := hv
     exact hnc
   have cells : ∀ (j : Nat) x, ([X1, X2, X3, X4, X5, X6, X7, d] : List ByteArray)[j]? = some x → w5.cell? ⟨g5, 0 + j, none⟩ = some (.string x) := fun j x hx => by
    have hj : j < 8 := (List.getElem?_eq_some_iff.1 hx).1
    have := World.ownsRow.cellAt ho' (0 + j) (by simpa using hj)
    rw [this, Nat.zero_add]
    simp only [scells, List.getElem?_map, hx, Option.map_some]
   have q := Tryz.strings_Join g5 0 k5 [X1, X2, X3, X4, X5, X6, X7, d] ⟨#[32]⟩ w5 cells lt5 (by simp) cap5 JS.out
   rw [stepT_join] at q
   exact q
  have mk1 : True := trivial
  go_region_law (first
   | (clear mk1; refine step_call (by rfl) 17 _ _ (by rfl) EG _ (by rfl) _ (PL.out _ L2d.out) ?_; rintro v w3 ⟨rfl, h3⟩; have B3 := hid (then_ B2d.out h3); obtain ⟨e0, e1, e2, e3, e4, e5, e6, e7, e8, e9⟩ := (HA.out _ B3.out).ten; have O3 := hid (O2.out.below (then_ (Below.refl _ _).drew h3)); have le3 := hid h3.size; have mk2 : True := trivial)
   | (clear mk2; refine step_call (by rfl) 17 _ _ (by rfl) EG _ (by rfl) _ (PC.out _ (then_ HL.out B3.out)) ?_; rintro v w4 ⟨rfl, h4⟩; have B4 := hid (then_ B3.out h4); obtain ⟨f0, f1, f2, f3, f4, f5, f6, f7, f8, f9⟩ := (HA.out _ B4.out).ten; have O4 := hid ((O3.out.below h4).alloc (.cells #[.string X6, .string X7, .string d] 9)); have T4 := hid (three_str (w := w4) X6 X7 d); have S4 := hid (Nat.le_trans le1.out (Nat.le_trans le3.out (Nat.le_trans h4.size (show w4.heap.size ≤ (w4.alloc (.cells #[.string X6, .string X7, .string d] 9)).heap.size by rw [World.size_alloc]; exact Nat.le_succ _)))); have mk3 : True := trivial)
   | (clear mk3; refine step_append3 (by rfl) _ _ (by rfl) w1.heap.size (.slice a2 5 k2) [X1, X2, X3, X4, X5] (by rfl) O4.out _ 3 X6 X7 d (by rfl) T4.out LM S4.out ?_; intro g5 k5 w5 O5 hg5))
  all_goals (
   have LB := then_ HL.out B4.out
   have L5 : Hid (Below w.heap.size w w5) := (LB.alloc LB.size (.cells #[.string X6, .string X7, .string d] 9)).trans (below_grown hg5 (LB.alloc LB.size (.cells #[.string X6, .string X7, .string d] 9)).size (fun j hj => Nat.le_trans (then_ HL.out h1).size (World.ownsRow.lt O4.out j hj).1))
   have J5 := hid (FIN.out g5 k5 w5 w1.heap.size O5)
   clear O5 hg5 O4 T4 S4 O3 O2 P19 P20 PL PC HA
   go_wp2_with (go_at_call 18; refine J5.out.mono ?_; rintro e w6 ⟨rfl, h6⟩)
   go_ret
   exact ⟨ret_str E.out.symm, then_ L5.out h6⟩)
end Go.Proofs.YthbmfbnnemgbpaaGreatDoor
