/- Drawn labels: what DrawLabelText and DrawLeq leave. -/
import Derived.Test.YthbmfbnnemgbpaaGreatDoorRR4
import Derived.Test.YthbmfbnnemgbpaaGreatDoorZ0
import Derived.Test.YthbmfbnnemgbpaaGreatDoorZ32
namespace Go.Proofs.YthbmfbnnemgbpaaGreatDoor
open Go.RowKit Go.Deep Go.Maps
theorem BytesAt.below {w w' : World} {a : Option Addr} {n : Nat} (h : BytesAt w a n) (hb : Below w.heap.size w w') : BytesAt w' a n := fun h0 => by
 obtain ⟨b, off, e, hlt, hc⟩ := h h0
 exact ⟨b, off, e, Nat.lt_of_lt_of_le hlt hb.size, fun i hi => by obtain ⟨v, hv, r⟩ := hc i hi; exact ⟨v, (hb.cell (p := ⟨b, off + i, none⟩) hlt).trans hv, r⟩⟩
theorem l1Open_any (a : Option Addr) (n cap : Nat) (w : World) (hn : n ≤ 1048576) (hb : BytesAt w a n) :
 Calls Tryz.prog 13 #[.slice a n cap] w fun e w' => ∃ rb, e = .returned (.pointer (some ⟨rb, 0, none⟩)) ∧ Rd w w' rb a n cap := by
 have R : Rd w (w.alloc (.cells #[.slice a n cap, .int .i64 0] 72)) w.heap.size a n cap :=
  ⟨(Below.refl _ w).alloc (Nat.le_refl _) _, Nat.le_refl _, hb, hn, 0, Nat.zero_le _, Blk.new w _⟩
 have HR : Hid (Rd w (w.alloc (.cells #[.slice a n cap, .int .i64 0] 72)) w.heap.size a n cap) := R
 clear R hb
 go_enter Tryz.func13, Tryz.ntmps13
 go_wp2
 go_ret
 exact ⟨_, rfl, HR.out⟩
end Go.Proofs.YthbmfbnnemgbpaaGreatDoor
namespace Go.Proofs.YthbmfbnnemgbpaaGreatDoor
open Go Go.RowKit Go.Deep Go.Maps Go.BigFrame Go.Shelf
theorem rowIs_lt {w : World} {b e m : Nat} {F : Nat → Value} (h : w.rowIs b e m F) : b < w.heap.size := by
 obtain ⟨cs, hc⟩ := keep_row h
 exact (Array.getElem?_eq_some_iff.1 hc).1
theorem CatL.new.grownR {B rb : Nat} {w w' : World} {c : CatL} (h : c.new B w) (g : w.grownBy w' (some rb)) (hr : rb < B) : c.new B w' := h.of g.size (fun b e hn => by
 obtain ⟨b', m, F, e', hb', _, hrow⟩ := h.2 hn
 rw [e] at e'
 cases e'
 exact g.block b (rowIs_lt hrow) (fun e => by cases e; omega))
theorem IntL.new.grownR {B rb : Nat} {w w' : World} {c : IntL} (h : c.new B w) (g : w.grownBy w' (some rb)) (hr : rb < B) : c.new B w' := h.of g.size (fun b e hn => by
 obtain ⟨b', m, F, e', hb', _, hrow⟩ := h.2 hn
 rw [e] at e'
 cases e'
 exact g.block b (rowIs_lt hrow) (fun e => by cases e; omega))
theorem StrL.new.grownR {B rb : Nat} {w w' : World} {c : StrL} (h : c.new B w) (g : w.grownBy w' (some rb)) (hr : rb < B) : c.new B w' := h.of g.size (fun b e hn => by
 obtain ⟨b', m, F, e', hb', _, hrow⟩ := h.2 hn
 rw [e] at e'
 cases e'
 exact g.block b (rowIs_lt hrow) (fun e => by cases e; omega))
theorem KSt.grownR {w w' : World} {B rb : Nat} {vt vo : Value} {lt : List ThrV} {lo : List ObjV} (h : KSt w B vt vo lt lo) (g : w.grownBy w' (some rb)) (hr : rb < B) : KSt w' B vt vo lt lo :=
 ⟨World.ownsRow.kept h.t g (Or.inr (fun e => by have := (World.ownsRow.lt h.t _ e).1; omega)), World.ownsRow.kept h.o g (Or.inr (fun e => by have := (World.ownsRow.lt h.o _ e).1; omega)),
   fun x hx => ⟨(h.tn x hx).1.grownR g hr, (h.tn x hx).2.1.grownR g hr, (h.tn x hx).2.2.grownR g hr⟩, fun x hx => ⟨(h.on x hx).1.grownR g hr, (h.on x hx).2.1.grownR g hr, (h.on x hx).2.2.1.grownR g hr, (h.on x hx).2.2.2.grownR g hr⟩, h.tc, h.oc⟩
structure RSt (w0 w W : World) (rb : Nat) (a : Option Addr) (n cap : Nat) : Prop where
 r : Rd w0 W rb a n cap
 g : w.grownBy W (some rb)
section
variable {w0 w W W' : World} {rb n cap : Nat} {a : Option Addr}
theorem RSt.refl (h : Rd w0 w rb a n cap) : RSt w0 w w rb a n cap := ⟨h, grown_refl w rb⟩
theorem RSt.below (h : RSt w0 w W rb a n cap) (hb : Below W.heap.size W W') : RSt w0 w W' rb a n cap := ⟨h.r.below hb, grown_below h.g hb⟩
theorem RSt.alloc (h : RSt w0 w W rb a n cap) (o : Obj) : RSt w0 w (W.alloc o) rb a n cap := h.below ((Below.refl _ W).alloc (Nat.le_refl _) o)
theorem RSt.call (h : RSt w0 w W rb a n cap) (r : Rd w0 W' rb a n cap) (g : W.grownBy W' (some rb)) : RSt w0 w W' rb a n cap := ⟨r, grown_pair h.g g⟩
theorem RSt.lt (h : RSt w0 w w rb a n cap) : rb < w.heap.size := h.r.lt
theorem RSt.set (h : RSt w0 w W rb a n cap) (hr : rb < w.heap.size) {Z : Nat} (hz : w.heap.size ≤ Z) (i : Nat) (v : Value) : RSt w0 w (W.setCell ⟨Z, i, none⟩ v) rb a n cap := ⟨h.r.set (by omega) i v, grown_over h.g hz i v⟩
theorem RSt.drew (h : RSt w0 w W rb a n cap) : RSt w0 w W.drew rb a n cap := h.below (below_drew (Below.refl _ W))
theorem RSt.keeps (h : Rd w0 W rb a n cap) (g : W.grownBy W' (some rb)) : KeepsL W W' := ⟨g.size, fun b cs t hb ht => by
 by_cases e : b = rb
 ·subst e
  obtain ⟨p, _, hp⟩ := h.at'
  unfold Blk at hp
  rw [hp] at hb
  simp only [Option.some.injEq, Obj.cells.injEq] at hb
  obtain ⟨_, rfl, _⟩ := hb
  exfalso
  revert ht
  decide
 ·exact g.block b (Array.getElem?_eq_some_iff.1 hb).1 (fun e' => by cases e'; exact e rfl)⟩
end
set_option maxRecDepth 100000 in
set_option maxHeartbeats 8000000 in
theorem rdText_any (w0 : World) (rb : Nat) (a : Option Addr) (n cap : Nat) (w : World) (h : Rd w0 w rb a n cap) :
 Calls Tryz.prog 40 #[.pointer (some ⟨rb, 0, none⟩)] w fun e w' => ∃ x : ByteArray, e = .returned (.string x) ∧ x.size ≤ 100 ∧ Rd w0 w' rb a n cap ∧ w.grownBy w' (some rb) := by
 have HR := hid (RSt.refl h)
 have lr := h.lt
 clear h
 go_enter Tryz.func40, Tryz.ntmps40
 go_wp2_with fail
 have B0 : Hid (∀ o, RSt w0 w (w.alloc o) rb a n cap) := hid (fun o => HR.out.alloc o)
 refine (rdBelow_any w0 rb a n cap 6 _ (by omega) (B0.out _).r).mono ?_
 rintro e w1 ⟨x, rfl, _, hx, r1, g1⟩
 have x6 := hx (by omega)
 have R1 := hid ((B0.out _).call r1 g1)
 have Z1 := hid ((Blk.new w _).grown g1 (by simp; omega))
 clear r1 g1 hx B0 HR
 have z := Z1.out.c0
 have c0 := z 0 rfl
 have c1 := z 1 rfl
 have c2 := z 2 rfl
 have c3 := z 3 rfl
 have c4 := z 4 rfl
 have c5 := z 5 rfl
 clear z
 have cs : x = 0 ∨ x = 1 ∨ x = 2 ∨ x = 3 ∨ x = 4 ∨ x = 5 := by omega
 rcases cs with rfl | rfl | rfl | rfl | rfl | rfl
 all_goals
  go_wp2
  go_ret
  exact ⟨_, rfl, by decide, R1.out.r, R1.out.g⟩
set_option maxRecDepth 100000 in
set_option maxHeartbeats 8000000 in
theorem rdId_any (w0 : World) (rb : Nat) (a : Option Addr) (n cap : Nat) (w : World) (h : Rd w0 w rb a n cap) (lt : List ThrV) (lo : List ObjV) (g ca q co B : Nat) (st : KSt w B (.slice (some ⟨g, 0, none⟩) lt.length ca) (.slice (some ⟨q, 0, none⟩) lo.length co) lt lo) (hr : rb < B) (h1 : 1 ≤ lo.length) (h2 : lo.length ≤ 65536) (hd : ∀ x ∈ lo, x.data.size ≤ maxLen) (hi : ∀ x ∈ lo, 0 ≤ x.id ∧ x.id ≤ 1000000) :
 Calls Tryz.prog 36 #[.pointer (some ⟨rb, 0, none⟩), .agg #[.slice (some ⟨g, 0, none⟩) lt.length ca, .slice (some ⟨q, 0, none⟩) lo.length co]] w fun e w' => ∃ x : Int, e = .returned (.int .i64 x) ∧ (0 ≤ x ∧ x ≤ 1000000) ∧ Rd w0 w' rb a n cap ∧ w.grownBy w' (some rb) := by
 have HR := hid (RSt.refl h)
 have HS := hid st
 have lr := h.lt
 have R0 := hid (HR.out.alloc (.cells #[.slice (some ⟨g, 0, none⟩) lt.length ca, .slice (some ⟨q, 0, none⟩) lo.length co] 42))
 have K0 := hid (Blk.new w (.cells #[.slice (some ⟨g, 0, none⟩) lt.length ca, .slice (some ⟨q, 0, none⟩) lo.length co] 42))
 have nr : ¬ w.heap.size = rb := by omega
 clear h st
 go_enter Tryz.func36, Tryz.ntmps36
 go_wp2_with fail
 refine (once_any w0 rb a n cap 8 _ (by omega) R0.out.r).mono ?_
 rintro e w1 ⟨t, rfl, r1, g1⟩
 have R1 := hid (R0.out.call r1 g1)
 have K1 := hid (K0.out.grown g1 (by simp; omega))
 clear r1 g1 R0 K0
 obtain ⟨x0, x1⟩ := K1.out.two
 cases t with
 | true =>
  go_wp2_with fail
  have B0 : Hid (∀ o, RSt w0 w (w1.alloc o) rb a n cap) := hid (fun o => R1.out.alloc o)
  refine (rdBelow_any w0 rb a n cap 5 _ (by omega) (B0.out _).r).mono ?_
  rintro e w2 ⟨x, rfl, _, hx, r2, g2⟩
  have x6 := hx (by omega)
  have R2 := hid ((B0.out _).call r2 g2)
  have s1 : w.heap.size ≤ w1.heap.size := R1.out.g.size
  have Z1 := hid ((Blk.new w1 _).grown g2 (by simp; omega))
  clear r2 g2 hx B0
  have z := Z1.out.c0
  have c0 := z 0 rfl
  have c1 := z 1 rfl
  have c2 := z 2 rfl
  have c3 := z 3 rfl
  have c4 := z 4 rfl
  clear z x0 x1
  have cs : x = 0 ∨ x = 1 ∨ x = 2 ∨ x = 3 ∨ x = 4 := by omega
  rcases cs with rfl | rfl | rfl | rfl | rfl
  all_goals
   go_wp2
   go_ret
   exact ⟨_, rfl, by omega, R2.out.r, R2.out.g⟩
 | false =>
  have n0 : ((lo.length : Int) == 0) = false := by simp only [beq_eq_false_iff_ne, ne_eq]; omega
  have n1 : decide ((lo.length : Int) = 0) = false := decide_eq_false (by omega)
  go_wp2_with fail
  have E1 : Hid (∀ args w, (callFunc 34 args).run Tryz.prog w = .ok (.enter 34 args) w) := hid (enters_of Tryz.func34 (by kernel_rfl) rfl)
  have F1 : Hid (∀ W, RSt w0 w W rb a n cap ∧ Blk W w.heap.size (.cells #[.slice (some ⟨g, 0, none⟩) lt.length ca, .slice (some ⟨q, 0, none⟩) lo.length co] 42) → Calls Tryz.prog 34 #[.pointer (some ⟨rb, 0, none⟩), .int .i64 (lo.length : Int)] W fun e w' => ∃ v, e = .returned v ∧ (∃ u : Nat, v = .int .i64 (u : Int) ∧ u < lo.length ∧ (RSt w0 w w' rb a n cap ∧ Blk w' w.heap.size (.cells #[.slice (some ⟨g, 0, none⟩) lt.length ca, .slice (some ⟨q, 0, none⟩) lo.length co] 42)))) := hid (fun W hW => (rdBelow_any w0 rb a n cap lo.length W h2 hW.1.r).mono fun e w' ⟨x, e1, _, hx, r, g'⟩ => ⟨_, e1, x, rfl, hx h1, hW.1.call r g', hW.2.grown g' (by simp; omega)⟩)
  have DR : Hid (RSt w0 w w1.drew rb a n cap ∧ Blk w1.drew w.heap.size (.cells #[.slice (some ⟨g, 0, none⟩) lt.length ca, .slice (some ⟨q, 0, none⟩) lo.length co] 42)) := hid ⟨R1.out.drew, K1.out.below (below_drew (Below.refl _ w1))⟩
  clear x0 x1
  refine wp_region_G 11 (fun W => RSt w0 w W rb a n cap ∧ Blk W w.heap.size (.cells #[.slice (some ⟨g, 0, none⟩) lt.length ca, .slice (some ⟨q, 0, none⟩) lo.length co] 42)) (by kernel_rfl) ?_
  refine tq 0 18 (.pointer (some ⟨w.heap.size, 1, none⟩)) DR.out ?_
  simp only [ap, List.set]
  refine tq 1 19 (.slice (some ⟨q, 0, none⟩) lo.length co) DR.out ?_ (hy := fun W h => by obtain ⟨z0, z1⟩ := h.2.two; go_simp)
  simp only [ap, List.set]
  refine tq 2 20 (.pointer (some ⟨rb, 0, none⟩)) DR.out ?_
  simp only [ap, List.set]
  refine tq 3 21 (.pointer (some ⟨w.heap.size, 1, none⟩)) DR.out ?_
  simp only [ap, List.set]
  refine tq 4 22 (.slice (some ⟨q, 0, none⟩) lo.length co) DR.out ?_ (hy := fun W h => by obtain ⟨z0, z1⟩ := h.2.two; go_simp)
  simp only [ap, List.set]
  refine tq 5 23 (.int .i64 (lo.length : Int)) DR.out ?_
  simp only [ap, List.set]
  generalize w1.drew = WD at *
  refine wpAnyG_one (i := 6) (by kernel_rfl) rfl ?_
  intro K hK
  refine step_call2g (by rfl) 34 _ _ _ (by rfl) E1.out _ _ (by rfl) (by rfl) (some 24) (by rfl) _ (F1.out _ DR.out) ?_
  rintro v w2 ⟨u, rfl, ul, hS⟩
  have H1 := hid hS
  refine hK.out _ _ (fun _ => H1.out) ?_
  clear hK K hS
  simp only [ap, List.set]
  have j1 : (u : Int) < (lo.length : Int) := by omega
  have j2 : (0 : Int) ≤ (u : Int) := by omega
  have IDC : Hid (∀ W, RSt w0 w W rb a n cap ∧ Blk W w.heap.size (.cells #[.slice (some ⟨g, 0, none⟩) lt.length ca, .slice (some ⟨q, 0, none⟩) lo.length co] 42) → W.cell? ⟨q, u * 10, none⟩ = some (.int .i64 (lo[u]).id)) := hid (fun W hW => ((HS.out.grownR hW.1.g hr).cell10 ul hd).1.c0)
  have IDO := hid (hi _ (List.getElem_mem ul))
  generalize (lo[u]).id = x at *
  refine tq 7 25 (.pointer (some ⟨q, u * 10, none⟩)) H1.out ?_
  simp only [ap, List.set]
  refine tq 8 26 (.pointer (some ⟨q, u * 10, none⟩)) H1.out ?_
  simp only [ap, List.set]
  refine tq 9 27 (.int .i64 x) H1.out ?_ (hy := fun W h => by have z0 := IDC.out W h; go_simp)
  simp only [ap, List.set]
  refine tq 10 4 (.int .i64 x) H1.out ?_
  simp only [ap, List.set]
  refine wpAnyG_done (by kernel_rfl) ?_ _
  go_wp2
  go_ret
  exact ⟨x, rfl, IDO.out, H1.out.1.r, H1.out.1.g⟩
end Go.Proofs.YthbmfbnnemgbpaaGreatDoor
