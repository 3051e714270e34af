/- Marks in objects that a call made: the whole object. -/
import Derived.Test.YtonpoakimpoojaaKO4
namespace Go.Proofs.Ytonpoakimpoojaa
open Go Go.RowKit Go.Deep Go.Maps

/-- k is the row that a list begins -/
def beg (a : Option Addr) (n k : Nat) : Prop := 0 < n ∧ a = some ⟨k, 0, none⟩
def Apt (a : Option Addr) (n : Nat) (a' : Option Addr) (n' : Nat) : Prop := ∀ b, beg a n b → ¬ beg a' n' b
theorem Apt.symm {a a' : Option Addr} {n n' : Nat} (h : Apt a n a' n') : Apt a' n' a n := fun b h1 h2 => h b h2 h1
theorem Touched.mono {H H' : Nat → Prop} {w w' : World} (h : Touched H w w') (hh : ∀ k, H k → H' k) : Touched H' w w' := ⟨h.os, h.tape, h.output, h.size, fun k hk hn => h.block k hk (fun e => hn (hh k e))⟩
theorem CatL.new.ownLt {B : Nat} {w : World} {c : CatL} (h : c.new B w) {b : Nat} (hb : beg c.a c.n b) : b < w.heap.size ∧ B ≤ b ∧ ∃ m F, w.rowIs b 112 m F := by
  obtain ⟨b', m, F, e, h1, _, h3⟩ := h.2 hb.1
  rw [hb.2] at e
  cases e
  exact ⟨h3.lt, h1, m, F, h3⟩
theorem IntL.new.ownLt {B : Nat} {w : World} {c : IntL} (h : c.new B w) {b : Nat} (hb : beg c.a c.n b) : b < w.heap.size ∧ B ≤ b ∧ ∃ m F, w.rowIs b 2 m F := by
  obtain ⟨b', m, F, e, h1, _, h3⟩ := h.2 hb.1
  rw [hb.2] at e
  cases e
  exact ⟨h3.lt, h1, m, F, h3⟩
theorem StrL.new.ownLt {B : Nat} {w : World} {c : StrL} (h : c.new B w) {b : Nat} (hb : beg c.a c.n b) : b < w.heap.size ∧ B ≤ b ∧ ∃ m F, w.rowIs b 9 m F := by
  obtain ⟨b', m, F, e, h1, _, h3⟩ := h.2 hb.1
  rw [hb.2] at e
  cases e
  exact ⟨h3.lt, h1, m, F, h3⟩
theorem CatL.new.touched {B : Nat} {w w' : World} {c : CatL} {H : Nat → Prop} (h : c.new B w) (t : Touched H w w') (ha : ∀ b, beg c.a c.n b → ¬ H b) : c.new B w' := h.of t.size (fun b e hn => t.block b (h.ownLt ⟨hn, e⟩).1 (ha b ⟨hn, e⟩))
theorem IntL.new.touched {B : Nat} {w w' : World} {c : IntL} {H : Nat → Prop} (h : c.new B w) (t : Touched H w w') (ha : ∀ b, beg c.a c.n b → ¬ H b) : c.new B w' := h.of t.size (fun b e hn => t.block b (h.ownLt ⟨hn, e⟩).1 (ha b ⟨hn, e⟩))
theorem StrL.new.touched {B : Nat} {w w' : World} {c : StrL} {H : Nat → Prop} (h : c.new B w) (t : Touched H w w') (ha : ∀ b, beg c.a c.n b → ¬ H b) : c.new B w' := h.of t.size (fun b e hn => t.block b (h.ownLt ⟨hn, e⟩).1 (ha b ⟨hn, e⟩))
theorem CatsAt.touched {w w' : World} {a : Option Addr} {n : Nat} {f g : Nat → Int} {H : Nat → Prop} (h : CatsAt w a n f g) (he : 0 < n → ∃ d, beg a n d) (t : Touched H w w') (ha : ∀ b, beg a n b → ¬ H b) : CatsAt w' a n f g := fun hn => by
  obtain ⟨b, off, e, hlt, hc⟩ := h hn
  obtain ⟨d, _, ed⟩ := he hn
  rw [ed] at e
  cases e
  have ce : ∀ o, w'.cell? ⟨b, o, none⟩ = w.cell? ⟨b, o, none⟩ := fun o => World.cell?_of_block (a := ⟨b, o, none⟩) (t.block b hlt (ha b ⟨hn, ed⟩))
  exact ⟨b, 0, ed, Nat.lt_of_lt_of_le hlt t.size, fun i hi => by rw [ce, ce]; exact hc i hi⟩
theorem IntsAt.touched {w w' : World} {a : Option Addr} {n : Nat} {f : Nat → Int} {H : Nat → Prop} (h : IntsAt w a n f) (he : 0 < n → ∃ d, beg a n d) (t : Touched H w w') (ha : ∀ b, beg a n b → ¬ H b) : IntsAt w' a n f := fun hn => by
  obtain ⟨b, off, e, hlt, hc⟩ := h hn
  obtain ⟨d, _, ed⟩ := he hn
  rw [ed] at e
  cases e
  have ce : ∀ o, w'.cell? ⟨b, o, none⟩ = w.cell? ⟨b, o, none⟩ := fun o => World.cell?_of_block (a := ⟨b, o, none⟩) (t.block b hlt (ha b ⟨hn, ed⟩))
  exact ⟨b, 0, ed, Nat.lt_of_lt_of_le hlt t.size, fun i hi => by rw [ce]; exact hc i hi⟩
theorem StrAt.touched {w w' : World} {a : Option Addr} {n : Nat} {f : Nat → ByteArray} {H : Nat → Prop} (h : StrAt w a n f) (he : 0 < n → ∃ d, beg a n d) (t : Touched H w w') (ha : ∀ b, beg a n b → ¬ H b) : StrAt w' a n f := fun hn => by
  obtain ⟨b, off, e, hlt, hc⟩ := h hn
  obtain ⟨d, _, ed⟩ := he hn
  rw [ed] at e
  cases e
  have ce : ∀ o, w'.cell? ⟨b, o, none⟩ = w.cell? ⟨b, o, none⟩ := fun o => World.cell?_of_block (a := ⟨b, o, none⟩) (t.block b hlt (ha b ⟨hn, ed⟩))
  exact ⟨b, 0, ed, Nat.lt_of_lt_of_le hlt t.size, fun i hi => by rw [ce]; exact hc i hi⟩
theorem CatL.new.begins {B : Nat} {w : World} {c : CatL} (h : c.new B w) : 0 < c.n → ∃ d, beg c.a c.n d := fun hn => by obtain ⟨b, _, _, e, _⟩ := h.2 hn; exact ⟨b, hn, e⟩
theorem IntL.new.begins {B : Nat} {w : World} {c : IntL} (h : c.new B w) : 0 < c.n → ∃ d, beg c.a c.n d := fun hn => by obtain ⟨b, _, _, e, _⟩ := h.2 hn; exact ⟨b, hn, e⟩
theorem StrL.new.begins {B : Nat} {w : World} {c : StrL} (h : c.new B w) : 0 < c.n → ∃ d, beg c.a c.n d := fun hn => by obtain ⟨b, _, _, e, _⟩ := h.2 hn; exact ⟨b, hn, e⟩

theorem markLabel_t (base : Int) (c : CatL) (B : Nat) (k0 : Int) (w : World) (hn : c.n ≤ 1048576) (h0 : 0 ≤ k0) (h1 : k0 ≤ 1000000000000) (hr : c.new B w) :
    Calls Try.prog 53 #[.agg #[.int .i64 base, .slice c.a c.n c.k], .int .i64 k0] w fun e w' => e = .returned (.int .i64 (k0 + 2 * c.n)) ∧ Touched (beg c.a c.n) w w' ∧ CatsAt w' c.a c.n (mk1 k0) (mk2 k0) := by
  obtain ⟨b, hR, hE⟩ := hr.rowAt
  refine (markLabel_any base c.a b c.n c.k k0 w hn h0 h1 hR).mono ?_
  rintro e w' ⟨he, hg, hc⟩
  refine ⟨he, Touched.of_grown hg (fun j hj => ?_), hc⟩
  split at hj
  · rename_i h; cases hj; exact ⟨h, hE h⟩
  · cases hj
theorem markInt_t (c : IntL) (B : Nat) (k0 : Int) (w : World) (hn : c.n ≤ 1048576) (h0 : 0 ≤ k0) (h1 : k0 ≤ 1000000000000) (hr : c.new B w) :
    Calls Try.prog 27 #[.slice c.a c.n c.k, .int .i64 k0] w fun e w' => e = .returned (.int .i64 (k0 + c.n)) ∧ Touched (beg c.a c.n) w w' ∧ IntsAt w' c.a c.n (mkI k0) := by
  obtain ⟨b, hR, hE, hF⟩ := hr.rowI
  refine (markInt64S_any c.a b c.n c.k k0 w hn h0 h1 hR).mono ?_
  rintro e w' ⟨he, hg, hc⟩
  refine ⟨he, ⟨hg.os, hg.tape, hg.output, hg.size, fun k hk hn' => hg.block k hk (fun e => ?_)⟩, hc⟩
  have e := Option.some.inj e
  subst e
  by_cases h : 0 < c.n
  · exact hn' ⟨h, hE h⟩
  · have := hF h
    omega
theorem markStr_t (c : StrL) (B : Nat) (k0 : Int) (w : World) (hn : c.n ≤ 1048576) (h0 : 1 ≤ k0) (h1 : k0 ≤ 1000000000000) (hr : c.new B w) :
    Calls Try.prog 54 #[.slice c.a c.n c.k, .int .i64 k0] w fun e w' => e = .returned (.int .i64 (k0 + c.n)) ∧ Touched (beg c.a c.n) w w' ∧ StrAt w' c.a c.n (mkS k0.toNat) := by
  obtain ⟨k, rfl⟩ : ∃ k : Nat, k0 = k := ⟨k0.toNat, by omega⟩
  obtain ⟨b, hR, hF⟩ : ∃ b, RowS w c.a b c.n ∧ (¬ 0 < c.n → w.heap.size ≤ b) := by
    by_cases h : 0 < c.n
    · obtain ⟨b, m, F, e, _, h2, h3⟩ := hr.2 h
      exact ⟨b, fun _ => ⟨e, m, F, h2, h3⟩, fun h' => absurd h h'⟩
    · exact ⟨w.heap.size, fun h' => absurd h' h, fun _ => Nat.le_refl _⟩
  refine (markStringS_any c.a b c.n c.k k w hn (by omega) (by omega) hR).mono ?_
  rintro e w' ⟨he, hg, hc⟩
  refine ⟨by rw [he]; simp, ⟨hg.os, hg.tape, hg.output, hg.size, fun k hk hn' => hg.block k hk (fun e => ?_)⟩, by simpa using hc⟩
  have e := Option.some.inj e
  subst e
  by_cases h : 0 < c.n
  · exact hn' ⟨h, (hR h).1⟩
  · have := hF h
    omega
theorem heldStr_t (c : StrL) (k0 : Int) (w : World) (hn : c.n ≤ 1048576) (h0 : 1 ≤ k0) (h1 : k0 ≤ 1000000000000) (hc : StrAt w c.a c.n (mkS k0.toNat)) :
    Calls Try.prog 56 #[.slice c.a c.n c.k, .int .i64 k0] w fun e w' => e = .returned (.int .i64 (k0 + c.n)) ∧ Below w.heap.size w w' := by
  obtain ⟨k, rfl⟩ : ∃ k : Nat, k0 = k := ⟨k0.toNat, by omega⟩
  refine (heldStringS_any c.a c.n c.k k w hn (by omega) (by omega) (by simpa using hc)).mono ?_
  rintro e w' ⟨he, hb⟩
  exact ⟨by rw [he]; simp, hb⟩

def ObjV.has (g : ObjV) (b : Nat) : Prop := beg g.c1.a g.c1.n b ∨ beg g.items.a g.items.n b ∨ beg g.own.a g.own.n b ∨ beg g.c2.a g.c2.n b
def MarkedO (g : ObjV) (w : World) : Prop := CatsAt w g.c1.a g.c1.n (mk1 1) (mk2 1) ∧ StrAt w g.items.a g.items.n (mkS ((1 + 2 * g.c1.n) : Int).toNat) ∧ IntsAt w g.own.a g.own.n (mkI (1 + 2 * g.c1.n + g.items.n)) ∧ CatsAt w g.c2.a g.c2.n (mk1 (1 + 2 * g.c1.n + g.items.n + g.own.n)) (mk2 (1 + 2 * g.c1.n + g.items.n + g.own.n))
theorem MarkedO.below {g : ObjV} {w w' : World} (h : MarkedO g w) (hb : Below w.heap.size w w') : MarkedO g w' := ⟨h.1.below hb, h.2.1.below hb, h.2.2.1.below hb, h.2.2.2.below hb⟩
theorem ObjV.new.apts {B : Nat} {w : World} {g : ObjV} (h : g.new B w) (ha : g.apart) : Apt g.c1.a g.c1.n g.items.a g.items.n ∧ Apt g.c1.a g.c1.n g.own.a g.own.n ∧ Apt g.c1.a g.c1.n g.c2.a g.c2.n ∧ Apt g.items.a g.items.n g.own.a g.own.n ∧ Apt g.items.a g.items.n g.c2.a g.c2.n ∧ Apt g.own.a g.own.n g.c2.a g.c2.n := by
  refine ⟨fun b h1 h2 => ?_, fun b h1 h2 => ?_, fun b h1 h2 => ha b b h1.2 h1.1 h2.2 h2.1 rfl, fun b h1 h2 => ?_, fun b h1 h2 => ?_, fun b h1 h2 => ?_⟩
  · obtain ⟨_, _, _, _, r1⟩ := h.1.ownLt h1
    obtain ⟨_, _, _, _, r2⟩ := h.2.1.ownLt h2
    exact row_ne r1 r2 (by decide) rfl
  · obtain ⟨_, _, _, _, r1⟩ := h.1.ownLt h1
    obtain ⟨_, _, _, _, r2⟩ := h.2.2.1.ownLt h2
    exact row_ne r1 r2 (by decide) rfl
  · obtain ⟨_, _, _, _, r1⟩ := h.2.1.ownLt h1
    obtain ⟨_, _, _, _, r2⟩ := h.2.2.1.ownLt h2
    exact row_ne r1 r2 (by decide) rfl
  · obtain ⟨_, _, _, _, r1⟩ := h.2.1.ownLt h1
    obtain ⟨_, _, _, _, r2⟩ := h.2.2.2.ownLt h2
    exact row_ne r1 r2 (by decide) rfl
  · obtain ⟨_, _, _, _, r1⟩ := h.2.2.1.ownLt h1
    obtain ⟨_, _, _, _, r2⟩ := h.2.2.2.ownLt h2
    exact row_ne r1 r2 (by decide) rfl

set_option maxRecDepth 100000 in
set_option maxHeartbeats 4000000 in
theorem markObject_r (g : ObjV) (B : Nat) (w : World) (hg : g.new B w) (ha : g.apart) (hs : g.small) :
    Calls Try.prog 17 #[g.val, .int .i64 1] w fun e w' => e = .returned (.int .i64 (1 + 2 * g.c1.n + g.items.n + g.own.n + 2 * g.c2.n)) ∧ MarkedO g w' ∧ Touched g.has w w' := by
  obtain ⟨s1, _, s2, s3, s4⟩ := hs
  have s2 := s2.1
  have b0 : Below w.heap.size w (w.alloc (.cells #[.int .i64 g.id, .int .i64 g.kind, .int .i64 g.up, .int .i64 g.b1, g.c1.val, .string g.data, g.items.val, g.own.val, .int .i64 g.b2, g.c2.val] 41)) := (Below.refl _ w).alloc (Nat.le_refl _) _
  have A0 := Blk.new w (.cells #[.int .i64 g.id, .int .i64 g.kind, .int .i64 g.up, .int .i64 g.b1, g.c1.val, .string g.data, g.items.val, g.own.val, .int .i64 g.b2, g.c2.val] 41)
  have G0 := hid (show g.c1.new B _ ∧ g.items.new B _ ∧ g.own.new B _ ∧ g.c2.new B _ from ⟨hg.1.below b0, hg.2.1.below b0, hg.2.2.1.below b0, hg.2.2.2.below b0⟩)
  have T0 : Hid (Touched g.has w (w.alloc (.cells #[.int .i64 g.id, .int .i64 g.kind, .int .i64 g.up, .int .i64 g.b1, g.c1.val, .string g.data, g.items.val, g.own.val, .int .i64 g.b2, g.c2.val] 41))) := hid (Touched.of_grown (World.grownBy_alloc w _ none) (fun j hj => by cases hj))
  obtain ⟨p1, p2, p3, p4, p5, p6⟩ := hg.apts ha
  have AP := hid (And.intro p1 (And.intro p2 (And.intro p3 (And.intro p4 (And.intro p5 p6)))))
  have BG := hid (And.intro hg.1.begins (And.intro hg.2.1.begins (And.intro hg.2.2.1.begins hg.2.2.2.begins)))
  have C1 := hid (markLabel_t g.b1 g.c1 B 1 _ s1 (by omega) (by omega) G0.out.1)
  unfold ObjV.val
  obtain ⟨x0, x1, x2, x3, x4, x5, x6, x7, x8, x9⟩ := A0.ten
  clear hg ha b0 p1 p2 p3 p4 p5 p6
  unfold CatL.val IntL.val StrL.val at *
  go_enter Try.func17, Try.ntmps17
  go_wp2_with fail
  refine C1.out.mono ?_
  rintro e w1 ⟨rfl, t1, c1⟩
  have G1 := hid (And.intro (G0.out.2.1.touched t1 (fun b h h' => AP.out.1 b h' h)) (And.intro (G0.out.2.2.1.touched t1 (fun b h h' => AP.out.2.1 b h' h)) (G0.out.2.2.2.touched t1 (fun b h h' => AP.out.2.2.1 b h' h))))
  have A1 := t1.blk A0 (fun e => G0.out.1.ne A0 (by decide) _ e.2 e.1 rfl)
  have T1 := hid (T0.out.trans (t1.mono (fun k h => .inl h)))
  have M1 := hid c1
  clear x0 x1 x2 x3 x4 x5 x6 x7 x8 x9 C1 A0 T0 t1 c1 G0
  obtain ⟨x0, x1, x2, x3, x4, x5, x6, x7, x8, x9⟩ := A1.ten
  have C2 := hid (markStr_t g.items B (1 + 2 * g.c1.n) w1 s2 (by omega) (by omega) G1.out.1)
  go_wp2_with fail
  refine C2.out.mono ?_
  rintro e w2 ⟨rfl, t2, c2⟩
  have G2 := hid (And.intro (G1.out.2.1.touched t2 (fun b h h' => AP.out.2.2.2.1 b h' h)) (G1.out.2.2.touched t2 (fun b h h' => AP.out.2.2.2.2.1 b h' h)))
  have A2 := t2.blk A1 (fun e => G1.out.1.ne A1 (by decide) _ e.2 e.1 rfl)
  have T2 := hid (T1.out.trans (t2.mono (fun k h => .inr (.inl h))))
  have N1 := hid (M1.out.touched BG.out.1 t2 AP.out.1)
  have N2 := hid c2
  clear x0 x1 x2 x3 x4 x5 x6 x7 x8 x9 C2 A1 T1 t2 c2 G1 M1
  obtain ⟨x0, x1, x2, x3, x4, x5, x6, x7, x8, x9⟩ := A2.ten
  have C3 := hid (markInt_t g.own B (1 + 2 * g.c1.n + g.items.n) w2 s3 (by omega) (by omega) G2.out.1)
  go_wp2_with fail
  refine C3.out.mono ?_
  rintro e w3 ⟨rfl, t3, c3⟩
  have G3 := hid (G2.out.2.touched t3 (fun b h h' => AP.out.2.2.2.2.2 b h' h))
  have A3 := t3.blk A2 (fun e => G2.out.1.ne A2 (by decide) _ e.2 e.1 rfl)
  have T3 := hid (T2.out.trans (t3.mono (fun k h => .inr (.inr (.inl h)))))
  have O1 := hid (N1.out.touched BG.out.1 t3 AP.out.2.1)
  have O2 := hid (N2.out.touched BG.out.2.1 t3 AP.out.2.2.2.1)
  have O3 := hid c3
  clear x0 x1 x2 x3 x4 x5 x6 x7 x8 x9 C3 A2 T2 t3 c3 G2 N1 N2
  obtain ⟨x0, x1, x2, x3, x4, x5, x6, x7, x8, x9⟩ := A3.ten
  have C4 := hid (markLabel_t g.b2 g.c2 B (1 + 2 * g.c1.n + g.items.n + g.own.n) w3 s4 (by omega) (by omega) G3.out)
  go_wp2_with fail
  refine C4.out.mono ?_
  rintro e w4 ⟨rfl, t4, c4⟩
  have T4 := hid (T3.out.trans (t4.mono (fun k h => .inr (.inr (.inr h)))))
  have Q1 := hid (O1.out.touched BG.out.1 t4 AP.out.2.2.1)
  have Q2 := hid (O2.out.touched BG.out.2.1 t4 AP.out.2.2.2.2.1)
  have Q3 := hid (O3.out.touched BG.out.2.2.1 t4 AP.out.2.2.2.2.2)
  have Q4 := hid c4
  clear x0 x1 x2 x3 x4 x5 x6 x7 x8 x9 C4 A3 T3 t4 c4 G3 O1 O2 O3
  go_wp2
  go_ret
  exact ⟨rfl, ⟨Q1.out, Q2.out, Q3.out, Q4.out⟩, T4.out⟩

set_option maxRecDepth 100000 in
set_option maxHeartbeats 4000000 in
theorem heldObject_r (g : ObjV) (w : World) (hm : MarkedO g w) (hs : g.small) :
    Calls Try.prog 18 #[g.val, .int .i64 1] w fun e w' => e = .returned (.int .i64 (1 + 2 * g.c1.n + g.items.n + g.own.n + 2 * g.c2.n)) ∧ Below w.heap.size w w' := by
  obtain ⟨s1, _, s2, s3, s4⟩ := hs
  have s2 := s2.1
  have b0 : Below w.heap.size w (w.alloc (.cells #[.int .i64 g.id, .int .i64 g.kind, .int .i64 g.up, .int .i64 g.b1, g.c1.val, .string g.data, g.items.val, g.own.val, .int .i64 g.b2, g.c2.val] 41)) := (Below.refl _ w).alloc (Nat.le_refl _) _
  have A0 := Blk.new w (.cells #[.int .i64 g.id, .int .i64 g.kind, .int .i64 g.up, .int .i64 g.b1, g.c1.val, .string g.data, g.items.val, g.own.val, .int .i64 g.b2, g.c2.val] 41)
  have M0 := hid (hm.below b0)
  have C1 := hid (heldLabel_any g.b1 g.c1.a g.c1.n g.c1.k 1 _ s1 (by omega) (by omega) M0.out.1)
  unfold ObjV.val
  obtain ⟨x0, x1, x2, x3, x4, x5, x6, x7, x8, x9⟩ := A0.ten
  clear hm
  unfold CatL.val IntL.val StrL.val at *
  go_enter Try.func18, Try.ntmps18
  go_wp2_with fail
  refine C1.out.mono ?_
  rintro e w1 ⟨rfl, h1⟩
  have B1 := then_ b0 h1
  have A1 := A0.below h1
  have M1 := hid (M0.out.below h1)
  clear x0 x1 x2 x3 x4 x5 x6 x7 x8 x9 C1 A0 M0 b0 h1
  obtain ⟨x0, x1, x2, x3, x4, x5, x6, x7, x8, x9⟩ := A1.ten
  have t1 : ¬ (1 : Int) + 2 * (g.c1.n : Int) < 0 := by omega
  have C2 := hid (heldStr_t g.items (1 + 2 * g.c1.n) w1 s2 (by omega) (by omega) M1.out.2.1)
  go_wp2_with fail
  refine C2.out.mono ?_
  rintro e w2 ⟨rfl, h2⟩
  have B2 := then_ B1 h2
  have A2 := A1.below h2
  have M2 := hid (M1.out.below h2)
  clear x0 x1 x2 x3 x4 x5 x6 x7 x8 x9 C2 A1 M1 B1 h2
  obtain ⟨x0, x1, x2, x3, x4, x5, x6, x7, x8, x9⟩ := A2.ten
  have t2 : ¬ (1 : Int) + 2 * (g.c1.n : Int) + (g.items.n : Int) < 0 := by omega
  have C3 := hid (heldInt64S_any g.own.a g.own.n g.own.k (1 + 2 * g.c1.n + g.items.n) w2 s3 (by omega) (by omega) M2.out.2.2.1)
  go_wp2_with fail
  refine C3.out.mono ?_
  rintro e w3 ⟨rfl, rfl⟩
  have t3 : ¬ (1 : Int) + 2 * (g.c1.n : Int) + (g.items.n : Int) + (g.own.n : Int) < 0 := by omega
  have C4 := hid (heldLabel_any g.b2 g.c2.a g.c2.n g.c2.k (1 + 2 * g.c1.n + g.items.n + g.own.n) w3 s4 (by omega) (by omega) M2.out.2.2.2)
  clear C3
  go_wp2_with fail
  refine C4.out.mono ?_
  rintro e w4 ⟨rfl, h4⟩
  have B4 := then_ B2 h4
  have t4 : ¬ (1 : Int) + 2 * (g.c1.n : Int) + (g.items.n : Int) + (g.own.n : Int) + 2 * (g.c2.n : Int) < 0 := by omega
  clear x0 x1 x2 x3 x4 x5 x6 x7 x8 x9
  go_wp2
  go_ret
  exact ⟨rfl, B4⟩
end Go.Proofs.Ytonpoakimpoojaa
