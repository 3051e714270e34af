/- Copies that the model makes: threads. -/
import Derived.Test.YthbmfbnnemgbpaaGreatDoorZ14
import Derived.Test.YthbmfbnnemgbpaaGreatDoorZ6
namespace Go.Proofs.YthbmfbnnemgbpaaGreatDoor
open Go Go.RowKit Go.Deep Go.Maps Go.BigFrame Go.Shelf
theorem results57 (tmps : Array Value) (W : World) (P : Nat) (x0 x1 x2 x3 x4 x5 x6 : Value) (h : Blk W P (.cells #[x0, x1, x2, x3, x4, x5, x6] 79)) (h2 : tmps[2]? = some (.pointer (some ⟨P, 0, none⟩))) :
 (results Tryz.f87 tmps).run Tryz.prog W = .ok (.agg #[x0, x1, x2, x3, x4, x5, x6]) W := by
 obtain ⟨z0, z1, z2, z3, z4, z5, z6⟩ := h.seven
 simp [results, Tryz.results87, go_sem, h2, z0, z1, z2, z3, z4, z5, z6]
theorem own_cap {w : World} {B e size n c : Nat} {a : Option Addr} {xs : List Value} (h : w.ownsRow B e size (.slice a n c) n xs) : n ≤ c ∧ c ≤ maxLen := by
 rcases h.2 with ⟨hv, hn⟩ | ⟨g, cap, cur, hv, _, _, h1, h2, _⟩
 ·simp only [Value.slice.injEq] at hv
  exact ⟨by omega, by rw [hv.2.2]; exact Nat.zero_le _⟩
 ·simp only [Value.slice.injEq] at hv
  rw [hv.2.2]
  exact ⟨h1, h2⟩
theorem step_append_int0 {ops : Array Oper} {o : Oper} {a : Act} {w : World} {K : Act → World → Prop} {Q : Exit → Act → World → Prop} {E : Prop} (hgd : o.guard = none) (s x : Operand)
 (ho : o.op = .call { callee := .builtin .append, args := #[s, x], argTypes := #[46, 46] })
 (B : Nat) (g : Nat) (hs : a.eval s = .slice (some ⟨g, 0, none⟩) 0 0) (hown : OwnI w B (.slice (some ⟨g, 0, none⟩) 0 0) []) (ad : Option Addr) (m c : Nat) (f : Nat → Int) (hx : a.eval x = .slice ad m c) (hc : IntsAt w ad m f)
 (hm : m ≤ 1048576) (hB : B ≤ w.heap.size)
 (h : ∀ a' c' w', IntL.new B w' ⟨a', m, c', f⟩ → (m ≤ c' ∧ c' ≤ maxLen) → w.grownBy w' (some g) → K (a.put o.dst (.slice a' m c')) w') :
 if Region.wanted o (yielded ops a.tmps) = true then Oper.wp Tryz.prog o a w K Q else E := by
 have hw : Region.wanted o (yielded ops a.tmps) = true := by simp [Region.wanted, hgd]
 rw [if_pos hw]
 have L0 := hc.intL
 have el : ((List.range m).map f).length = m := by simp
 have L : LiesC w ad m (((List.range m).map f).map (Value.int .i64)) := by unfold NumL at L0; rw [el] at L0; exact L0
 refine wp_append_gen Tryz.underlying46 Tryz.info2 rfl (by omega) w s x ho B _ 0 [] hs hown ad m c (((List.range m).map f).map (Value.int .i64)) hx (by simp) L (fun u hu => by obtain ⟨y, _, rfl⟩ := List.mem_map.1 hu; rfl) (by omega) (by omega) hB fun a' c' w' h2 h3 _ => ?_
 rw [Nat.zero_add, List.nil_append] at h2
 rw [Nat.zero_add]
 refine h a' c' w' ?_ (own_cap h2) h3
 have ho' : OwnI w' B (.slice a' ((List.range m).map f).length c') ((List.range m).map f) := by unfold OwnI; rw [el]; exact h2
 have hi : IntsAt w' a' m f := fun h0 => by
  obtain ⟨b, off, e, hlt, hcc⟩ := (OwnI.lies ho').ints (by rw [el]; exact h0)
  refine ⟨b, off, e, hlt, fun i hi => ?_⟩
  have := hcc i (by rw [el]; exact hi)
  rw [this]
  simp [nthI, hi]
 exact ⟨⟨by unfold maxLen; simp only; omega, hi⟩, fun h0 => by have := row_of_own h2 h0; simpa using this⟩
theorem row_own_ne {w : World} {B b m g : Nat} {F : Nat → Value} (hr : w.rowIs b 63 m F) (ho : OwnI w B (.slice (some ⟨g, 0, none⟩) 0 0) []) : b ≠ g := fun e => by
 obtain ⟨cur, hb⟩ := own_block ho (g := g) rfl
 obtain ⟨c, h1, _⟩ := hr
 rw [e, hb] at h1
 simp at h1
theorem CatL.new.over {B : Nat} {w w' : World} {c : CatL} (h : c.new B w) (hs : w.heap.size ≤ w'.heap.size) (hb : ∀ b m F, w.rowIs b 63 m F → w'.heap[b]? = w.heap[b]?) : c.new B w' := h.of hs (fun b e hn => by
 obtain ⟨b', m, F, e', _, _, hr⟩ := h.2 hn
 rw [e] at e'
 cases e'
 exact hb b m F hr)
set_option maxRecDepth 100000 in
set_option maxHeartbeats 8000000 in
theorem l3CopyThread_cap (t : ThrV) (w : World) (ht : t.at w) (hs : t.small) :
 Calls Tryz.prog 87 #[t.val] w fun e w' => ∃ u : ThrV, e = .returned u.val ∧ t.same u ∧ u.new w.heap.size w' ∧ (u.own.n ≤ u.own.k ∧ u.own.k ≤ maxLen) ∧ Below w.heap.size w w' := by
 have b0 : Below w.heap.size w ((w.alloc t.blk).alloc (.cells #[.int .i64 0, .int .i64 0, .slice none 0 0, .int .i64 0, .slice none 0 0, .slice none 0 0, .int .i64 0] 79)) := ((Below.refl _ w).alloc (Nat.le_refl _) _).alloc (by simp) _
 have A0 := (Blk.new w t.blk).alloc (.cells #[.int .i64 0, .int .i64 0, .slice none 0 0, .int .i64 0, .slice none 0 0, .slice none 0 0, .int .i64 0] 79)
 have R0 : Blk ((w.alloc t.blk).alloc (.cells #[.int .i64 0, .int .i64 0, .slice none 0 0, .int .i64 0, .slice none 0 0, .slice none 0 0, .int .i64 0] 79)) (w.heap.size + 1) (.cells #[.int .i64 0, .int .i64 0, .slice none 0 0, .int .i64 0, .slice none 0 0, .slice none 0 0, .int .i64 0] 79) := by
  have := Blk.new (w.alloc t.blk) (.cells #[.int .i64 0, .int .i64 0, .slice none 0 0, .int .i64 0, .slice none 0 0, .slice none 0 0, .int .i64 0] 79)
  simpa using this
 have T0 := hid (ht.below b0)
 unfold ThrV.blk at b0 A0 R0 T0
 unfold ThrV.val
 obtain ⟨x0, x1, x2, x3, x4, x5, x6⟩ := A0.seven
 obtain ⟨m1, m2, m3⟩ := hs
 clear ht
 unfold IntL.val at *
 go_enter Tryz.func87, Tryz.ntmps87
 go_wp2
 generalize hV : ((w.alloc (.cells #[.int .i64 t.id, .int .i64 t.b1, t.c1.val, .int .i64 t.b2, t.c2.val, .slice t.own.a t.own.n t.own.k, .int .i64 t.made] 79)).alloc (.cells #[.int .i64 0, .int .i64 0, .slice none 0 0, .int .i64 0, .slice none 0 0, .slice none 0 0, .int .i64 0] 79)) = V at *
 have B0 := hid b0
 have A0' : Hid (∀ W, Below V.heap.size V W → Blk W w.heap.size (.cells #[.int .i64 t.id, .int .i64 t.b1, t.c1.val, .int .i64 t.b2, t.c2.val, .slice t.own.a t.own.n t.own.k, .int .i64 t.made] 79)) := hid (fun W h => A0.below h)
 have R0' := hid R0
 have PA : Hid (∀ W, Below V.heap.size V W → Calls Tryz.prog 91 #[.agg #[.int .i64 t.b1, t.c1.val]] W fun e w' => ∃ d : CatL, e = .returned (.agg #[.int .i64 t.b1, .slice d.a d.n d.k]) ∧ t.c1.same d ∧ d.new W.heap.size w' ∧ Below W.heap.size W w') := hid (fun W hW => l3CopyLabel_any t.b1 t.c1 W (T0.out.below hW).1 m1)
 have PB : Hid (∀ W, Below V.heap.size V W → Calls Tryz.prog 91 #[.agg #[.int .i64 t.b2, t.c2.val]] W fun e w' => ∃ d : CatL, e = .returned (.agg #[.int .i64 t.b2, .slice d.a d.n d.k]) ∧ t.c2.same d ∧ d.new W.heap.size w' ∧ Below W.heap.size W w') := hid (fun W hW => l3CopyLabel_any t.b2 t.c2 W (T0.out.below hW).2.1 m2)
 have TO : Hid (∀ W, Below V.heap.size V W → IntsAt W t.own.a t.own.n t.own.h) := hid (fun W hW => (T0.out.below hW).2.2.2)
 clear hV b0 A0 R0
 have V0 : Hid (Below V.heap.size V V.drew) := hid (Below.refl _ V).drew
 have V0a : Hid (Below V.heap.size V ((V.alloc (.cells #[] 2)).drew)) := hid (below_drew ((Below.refl _ V).alloc (Nat.le_refl _) _))
 have EO0 : Hid (OwnI ((V.alloc (.cells #[] 2)).drew) w.heap.size (.slice (some ⟨V.heap.size, 0, none⟩) 0 0) []) := hid (OwnI.made V w.heap.size B0.out.size)
 have lt0 : w.heap.size < V.heap.size := (A0'.out V (Below.refl _ V)).lt
 have nx0 : ¬ w.heap.size = V.heap.size := by omega
 obtain ⟨y0, y1, y2, y3, y4, y5, y6⟩ := (A0'.out _ V0a.out).seven
 have ne1 : ¬ w.heap.size = w.heap.size + 1 := by omega
 have ne2 : ¬ w.heap.size + 1 = w.heap.size := by omega
 have mk1 : True := trivial
 have mk2 : True := trivial
 go_region_held3 (fun w' => w'.cell? ⟨w.heap.size, 0, none⟩ = some (.int .i64 t.id) ∧ w'.cell? ⟨w.heap.size, 1, none⟩ = some (.int .i64 t.b1) ∧ w'.cell? ⟨w.heap.size, 2, none⟩ = some t.c1.val ∧ w'.cell? ⟨w.heap.size, 3, none⟩ = some (.int .i64 t.b2) ∧ w'.cell? ⟨w.heap.size, 4, none⟩ = some t.c2.val ∧ w'.cell? ⟨w.heap.size, 5, none⟩ = some (.slice t.own.a t.own.n t.own.k) ∧ w'.cell? ⟨w.heap.size, 6, none⟩ = some (.int .i64 t.made)) (first | go_keep | (simp only [*, and_self]))
  (first
    | (go_at_call 91; have mq := mk1; clear mk1; first | (refine (PA.out _ V0.out).mono ?_; rintro e w1 ⟨d1, rfl, s1, n1, h1⟩; have V1 := hid (then_ V0.out h1); have LN1 := hid (n1.low (Nat.le_trans B0.out.size V0.out.size)); have S1 := hid s1; obtain ⟨e0, e1, e2, e3, e4, e5, e6⟩ := (A0'.out _ V1.out).seven; have V1a := hid (V1.out.alloc V1.out.size (.cells #[] 2)); have lt1 : w.heap.size < w1.heap.size := (A0'.out _ V1.out).lt; have nx1 : ¬ w.heap.size = w1.heap.size := (by omega); obtain ⟨p0, p1, p2, p3, p4, p5, p6⟩ := (A0'.out _ V1a.out).seven) | (refine (PA.out _ V0a.out).mono ?_; rintro e w1 ⟨d1, rfl, s1, n1, h1⟩; have V1 := hid (then_ V0a.out h1); have LN1 := hid (n1.low (Nat.le_trans B0.out.size V0a.out.size)); have S1 := hid s1; obtain ⟨e0, e1, e2, e3, e4, e5, e6⟩ := (A0'.out _ V1.out).seven; have EO1 := hid (EO0.out.below h1); have V1a := hid (V1.out.alloc V1.out.size (.cells #[] 2)); have lt1 : w.heap.size < w1.heap.size := (A0'.out _ V1.out).lt; have nx1 : ¬ w.heap.size = w1.heap.size := (by omega); obtain ⟨p0, p1, p2, p3, p4, p5, p6⟩ := (A0'.out _ V1a.out).seven))
    | (go_at_call 91; have mq' := mk2; clear mk2; first | (refine (PB.out _ V1.out).mono ?_; rintro e w2 ⟨d2, rfl, s2, n2, h2⟩; have V2 := hid (then_ V1.out h2); have LN2 := hid (n2.low (Nat.le_trans B0.out.size V1.out.size)); have H12 := hid h2; have S2 := hid s2; obtain ⟨f0, f1, f2, f3, f4, f5, f6⟩ := (A0'.out _ V2.out).seven; have EO2 := hid (EO1.out.below h2); have V2a := hid (V2.out.alloc V2.out.size (.cells #[] 2)); have lt2 : w.heap.size < w2.heap.size := (A0'.out _ V2.out).lt; have nx2 : ¬ w.heap.size = w2.heap.size := (by omega); obtain ⟨r0, r1, r2, r3, r4, r5, r6⟩ := (A0'.out _ V2a.out).seven) | (refine (PB.out _ V1.out).mono ?_; rintro e w2 ⟨d2, rfl, s2, n2, h2⟩; have V2 := hid (then_ V1.out h2); have LN2 := hid (n2.low (Nat.le_trans B0.out.size V1.out.size)); have H12 := hid h2; have S2 := hid s2; obtain ⟨f0, f1, f2, f3, f4, f5, f6⟩ := (A0'.out _ V2.out).seven; have V2a := hid (V2.out.alloc V2.out.size (.cells #[] 2)); have lt2 : w.heap.size < w2.heap.size := (A0'.out _ V2.out).lt; have nx2 : ¬ w.heap.size = w2.heap.size := (by omega); obtain ⟨r0, r1, r2, r3, r4, r5, r6⟩ := (A0'.out _ V2a.out).seven) | (have EOm := hid (OwnI.made w1 w.heap.size (Nat.le_trans B0.out.size V1.out.size)); (refine (PB.out _ V1a.out).mono ?_; rintro e w2 ⟨d2, rfl, s2, n2, h2⟩; have V2 := hid (then_ V1a.out h2); have LN2 := hid (n2.low (Nat.le_trans B0.out.size V1a.out.size)); have H12 := hid (then_ ((Below.refl _ w1).alloc (Nat.le_refl _) (.cells #[] 2)) h2); have S2 := hid s2; obtain ⟨f0, f1, f2, f3, f4, f5, f6⟩ := (A0'.out _ V2.out).seven; have EO2 := hid (EOm.out.below h2); have V2a := hid (V2.out.alloc V2.out.size (.cells #[] 2)); have lt2 : w.heap.size < w2.heap.size := (A0'.out _ V2.out).lt; have nx2 : ¬ w.heap.size = w2.heap.size := (by omega); obtain ⟨r0, r1, r2, r3, r4, r5, r6⟩ := (A0'.out _ V2a.out).seven)))
    | (refine step_append_int0 (by rfl) _ _ (by rfl) w.heap.size V.heap.size (by rfl) EO2.out _ _ _ t.own.h (by rfl) (TO.out _ V2.out) m3 (V2.out.size |> Nat.le_trans B0.out.size) ?_; intro a3 c3 w3 n3 cp3 g3; have CAP := hid cp3; clear cp3; have HB3 : Hid (∀ b m F, w2.rowIs b 63 m F → w3.heap[b]? = w2.heap[b]?) := hid (fun b m F hr => g3.block b hr.lt (fun e => row_own_ne hr EO2.out (Option.some.inj e))); have SZ3 := hid g3.size; have NG : Hid (∀ k, k < V.heap.size → some k ≠ some V.heap.size) := hid (fun k hk e => Nat.lt_irrefl _ (Nat.lt_of_lt_of_le (Option.some.inj e ▸ hk) (Nat.le_refl _))); have B3 : Hid (Below V.heap.size V w3) := hid (V2.out.trans (below_grown g3 V2.out.size (fun j hj => by cases hj; exact Nat.le_refl _))); have X3 := hid (V2.out); obtain ⟨g0, g1, g2, g3', g4, g5, g6⟩ := (A0'.out _ B3.out).seven; obtain ⟨k0, k1, k2, k3, k4, k5, k6⟩ := (R0'.out.below B3.out).seven; have kf := (R0'.out.below B3.out).warm; have N3 := hid n3; have G3 := hid g3; clear n3 g3)
    | (refine step_append_int0 (by rfl) _ _ (by rfl) w.heap.size w1.heap.size (by rfl) EO2.out _ _ _ t.own.h (by rfl) (TO.out _ V2.out) m3 (V2.out.size |> Nat.le_trans B0.out.size) ?_; intro a3 c3 w3 n3 cp3 g3; have CAP := hid cp3; clear cp3; have HB3 : Hid (∀ b m F, w2.rowIs b 63 m F → w3.heap[b]? = w2.heap[b]?) := hid (fun b m F hr => g3.block b hr.lt (fun e => row_own_ne hr EO2.out (Option.some.inj e))); have SZ3 := hid g3.size; have NG : Hid (∀ k, k < V.heap.size → some k ≠ some w1.heap.size) := hid (fun k hk e => Nat.lt_irrefl _ (Nat.lt_of_lt_of_le (Option.some.inj e ▸ hk) (V1.out.size))); have B3 : Hid (Below V.heap.size V w3) := hid (V2.out.trans (below_grown g3 V2.out.size (fun j hj => by cases hj; exact V1.out.size))); have X3 := hid (V2.out); obtain ⟨g0, g1, g2, g3', g4, g5, g6⟩ := (A0'.out _ B3.out).seven; obtain ⟨k0, k1, k2, k3, k4, k5, k6⟩ := (R0'.out.below B3.out).seven; have kf := (R0'.out.below B3.out).warm; have N3 := hid n3; have G3 := hid g3; clear n3 g3)
    | (refine step_append_int0 (by rfl) _ _ (by rfl) w.heap.size w2.heap.size (by rfl) (OwnI.made w2 w.heap.size (Nat.le_trans B0.out.size V2.out.size)) _ _ _ t.own.h (by rfl) (TO.out _ V2a.out) m3 (V2a.out.size |> Nat.le_trans B0.out.size) ?_; intro a3 c3 w3 n3 cp3 g3; have CAP := hid cp3; clear cp3; have HB3 : Hid (∀ b m F, w2.rowIs b 63 m F → w3.heap[b]? = w2.heap[b]?) := hid (fun b m F hr => (g3.block b (Nat.lt_of_lt_of_le hr.lt ((Below.refl _ w2).alloc (Nat.le_refl _) (.cells #[] 2)).size) (fun e => Nat.ne_of_lt hr.lt (Option.some.inj e))).trans (blk_alloc_lt _ _ _ hr.lt)); have SZ3 := hid (Nat.le_trans ((Below.refl _ w2).alloc (Nat.le_refl _) (.cells #[] 2)).size g3.size); have NG : Hid (∀ k, k < V.heap.size → some k ≠ some w2.heap.size) := hid (fun k hk e => Nat.lt_irrefl _ (Nat.lt_of_lt_of_le (Option.some.inj e ▸ hk) (V2.out.size))); have B3 : Hid (Below V.heap.size V w3) := hid (V2a.out.trans (below_grown g3 V2a.out.size (fun j hj => by cases hj; exact V2.out.size))); have X3 := hid (V2a.out); obtain ⟨g0, g1, g2, g3', g4, g5, g6⟩ := (A0'.out _ B3.out).seven; obtain ⟨k0, k1, k2, k3, k4, k5, k6⟩ := (R0'.out.below B3.out).seven; have kf := (R0'.out.below B3.out).warm; have N3 := hid n3; have G3 := hid g3; clear n3 g3))
 all_goals (
  have Q1 := hid ((LN1.out.below H12.out).over SZ3.out HB3.out)
  have Q2 := hid (LN2.out.over SZ3.out HB3.out)
  have BB := hid (then_ B0.out B3.out)
  have RR := hid (R0'.out.below B3.out)
  clear LN1 LN2 H12 HB3 SZ3 G3 NG X3 V0 V0a EO0 PA PB TO A0'
  go_wp2
  refine bodyPost_ret (results57 _ _ (w.heap.size + 1) (.int .i64 t.id) (.int .i64 t.b1) (.slice d1.a d1.n d1.k) (.int .i64 t.b2) (.slice d2.a d2.n d2.k) (.slice a3 t.own.n c3) (.int .i64 t.made) (Blk.all7 RR.out _ _ _ _ _ _ _) rfl) rfl ⟨⟨t.id, t.b1, d1, t.b2, d2, ⟨a3, t.own.n, c3, t.own.h⟩, t.made⟩, rfl, ⟨rfl, rfl, S1.out, rfl, S2.out, ⟨rfl, rfl⟩, rfl⟩, ⟨?_, ?_, ?_⟩, CAP.out, ?_⟩
  ·refine Q1.out.of (by simp) (fun g hg hn' => ?_)
   have q2 := Q1.out.ne RR.out (by decide) g hg hn'
   iterate 7 rw [blk_setCell_other _ _ _ _ (by dsimp only; omega)]
  ·refine Q2.out.of (by simp) (fun g hg hn' => ?_)
   have q2 := Q2.out.ne RR.out (by decide) g hg hn'
   iterate 7 rw [blk_setCell_other _ _ _ _ (by dsimp only; omega)]
  ·refine N3.out.of (by simp) (fun g hg hn' => ?_)
   have q2 := N3.out.ne RR.out (by decide) g hg hn'
   iterate 7 rw [blk_setCell_other _ _ _ _ (by dsimp only; omega)]
  ·iterate 7 refine Below.setCell ?_ (by dsimp only; omega) _
   exact BB.out)
end Go.Proofs.YthbmfbnnemgbpaaGreatDoor
