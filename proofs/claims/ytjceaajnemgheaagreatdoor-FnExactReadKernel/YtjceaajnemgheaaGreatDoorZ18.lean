/- Marks in objects that a call made. -/
import Derived.Test.YtjceaajnemgheaaGreatDoorZ17
import Derived.Test.YtjceaajnemgheaaGreatDoorZ5
import Derived.Test.YtjceaajnemgheaaGreatDoorKB10
namespace Go.Proofs.YtjceaajnemgheaaGreatDoor
open Go Go.RowKit Go.Deep Go.Maps

def mkS (k i : Nat) : ByteArray := ⟨(109 :: digs (k + i)).toArray⟩
def RowS (w : World) (a : Option Addr) (b n : Nat) : Prop := 0 < n → a = some ⟨b, 0, none⟩ ∧ ∃ m F, n ≤ m ∧ w.rowIs b 9 m F

set_option maxRecDepth 100000 in
set_option maxHeartbeats 1000000 in
theorem markStringS_any (a : Option Addr) (b n cap k : Nat) (w : World) (hn : n ≤ 1048576) (hk : 1 ≤ k) (hk2 : k ≤ 1000000000000) (hr : RowS w a b n) :
    Calls Tryz.prog 40 #[.slice a n cap, .int .i64 (k : Nat)] w fun e w' => e = .returned (.int .i64 (k + n : Nat)) ∧ w.grownBy w' (some b) ∧ StrAt w' a n (mkS k) := by
  have M := hid (fun (j : Nat) (hj : j < n) w => markText_any (k + j) w (by omega) (by omega))
  go_enter Tryz.func40, Tryz.ntmps40
  go_wp2
  go_loopw [1, 5] (fun kk i wr => ∃ j : Nat, j ≤ n ∧ i = .int .i64 j ∧ kk = .int .i64 (k + j : Nat) ∧ w.grownBy wr (some b) ∧ RowS wr a b n ∧ (∀ i, i < j → wr.cell? ⟨b, i, none⟩ = some (.string (mkS k i)))) (fun _ i _ => n - (intOf i).toNat)
  case atStart => exact ⟨0, Nat.zero_le _, rfl, rfl, grown_refl _ _, hr, fun i hi => by omega⟩
  case round =>
    obtain ⟨j, hj, rfl, rfl, hg, hrow, hcells⟩ := hrel
    have HCL := hid hcells
    clear hcells
    by_cases hlt : j < n
    · obtain ⟨rfl, m, F, hm, hR⟩ := hrow (by omega)
      have HR := hid hR
      have MJ := hid (M.out j hlt)
      have i0 : (j : Int) < (n : Int) := by omega
      clear hR hrow hr M
      go_wp2_with (go_at_call 39; refine (MJ.out _).mono ?_; rintro e w2 ⟨rfl, h2⟩; have R2 := hid (HR.out.of_block (h2.block b HR.out.lt)); have c1 := R2.out.cell (i := j) (Nat.lt_of_lt_of_le hlt hm); have f1 := R2.out.frozen j)
      go_roundw
      case rel =>
        have R1 := R2.out.set j (.string (mkS k j))
        refine ⟨j + 1, by omega, by go_num, by go_num, ?_, fun _ => ⟨rfl, m, _, hm, R1⟩, fun i hi => ?_⟩
        · have g2 : w.grownBy w2 (some b) := ⟨h2.os.trans hg.os, h2.tape.trans hg.tape, h2.output.trans hg.output, Nat.le_trans hg.size h2.size, fun k hk hne => (h2.block k (Nat.lt_of_lt_of_le hk hg.size)).trans (hg.block k hk hne)⟩
          exact grown_set g2 _ _
        · show (w2.setCell ⟨b, j, none⟩ (.string (mkS k j))).cell? ⟨b, i, none⟩ = _
          rw [R1.cell (i := i) (by omega)]
          by_cases e : i = j
          · subst e; rw [if_pos rfl]
          · have d := HCL.out i (by omega)
            have hb' : w2.cell? ⟨b, i, none⟩ = wr.cell? ⟨b, i, none⟩ := h2.cell (p := ⟨b, i, none⟩) HR.out.lt
            rw [← hb', R2.out.cell (i := i) (by omega)] at d
            rw [if_neg e]
            exact d
      case measure => simp [intOf]; omega
    · have ej : j = n := by omega
      subst ej
      go_wp2
      go_ret
      refine ⟨by simp, hg, fun hp => ?_⟩
      obtain ⟨rfl, m, F, hm, hR⟩ := hrow hp
      exact ⟨b, 0, rfl, hR.lt, fun i hi => by rw [Nat.zero_add]; exact HCL.out i hi⟩

set_option maxRecDepth 100000 in
set_option maxHeartbeats 1000000 in
theorem heldStringS_any (a : Option Addr) (n cap k : Nat) (w : World) (hn : n ≤ 1048576) (hk : 1 ≤ k) (hk2 : k ≤ 1000000000000) (H : StrAt w a n (mkS k)) :
    Calls Tryz.prog 43 #[.slice a n cap, .int .i64 (k : Nat)] w fun e w' => e = .returned (.int .i64 (k + n : Nat)) ∧ Below w.heap.size w w' := by
  have M := hid (fun (j : Nat) (hj : j < n) w => markText_any (k + j) w (by omega) (by omega))
  go_enter Tryz.func43, Tryz.ntmps43
  go_wp2
  go_loopw [1, 5] (fun kk i wr => ∃ j : Nat, j ≤ n ∧ i = .int .i64 j ∧ kk = .int .i64 (k + j : Nat) ∧ Below w.heap.size w wr) (fun _ i _ => n - (intOf i).toNat)
  case atStart => exact ⟨0, Nat.zero_le _, rfl, rfl, Below.refl _ _⟩
  case round =>
    obtain ⟨j, hj, rfl, rfl, hB⟩ := hrel
    by_cases hlt : j < n
    · obtain ⟨b, off, rfl, hz, hc⟩ := H (by omega)
      have u1 : ∀ p : Up wr, p.W.cell? ⟨b, off + j, none⟩ = some (.string (mkS k j)) := fun p => ((then_ hB p.h).cell (p := ⟨b, _, none⟩) hz).trans (hc j hlt)
      have MJ : Hid (∀ W, Calls Tryz.prog 39 #[.int .i64 (k + j : Nat)] W fun e w' => e = .returned (.string (mkS k j)) ∧ Below W.heap.size W w') := M.out j hlt
      have i0 : (j : Int) < (n : Int) := by omega
      clear hc H M
      generalize mkS k j = X at *
      go_wp2
      refine wp_region_quiet_up (by kernel_rfl) (by kernel_rfl) ?_
      repeat (go_big_quiet_step (first | (go_at_call 39; exact up_of (MJ.out _))))
      refine wpQuiet_nil ?_
      rintro _ ⟨p, rfl⟩
      go_wp2
      exact ⟨⟨j + 1, by omega, by go_num, by go_num, then_ hB p.h⟩, by simp [intOf]; omega⟩
    · have ej : j = n := by omega
      subst ej
      clear H
      go_wp2
      go_ret
      exact ⟨by simp, hB⟩
end Go.Proofs.YtjceaajnemgheaaGreatDoor
namespace Go.Proofs.YtjceaajnemgheaaGreatDoor
open Go Go.RowKit Go.Deep Go.Maps
def beg (a : Option Addr) (n k : Nat) : Prop := 0 < n ∧ a = some ⟨k, 0, none⟩
def Apt (a : Option Addr) (n : Nat) (a' : Option Addr) (n' : Nat) : Prop := ∀ b, beg a n b → ¬ beg a' n' b
theorem Apt.symm {a a' : Option Addr} {n n' : Nat} (h : Apt a n a' n') : Apt a' n' a n := fun b h1 h2 => h b h2 h1
theorem Touched.mono {H H' : Nat → Prop} {w w' : World} (h : Touched H w w') (hh : ∀ k, H k → H' k) : Touched H' w w' := ⟨h.os, h.tape, h.output, h.size, fun k hk hn => h.block k hk (fun e => hn (hh k e))⟩
theorem CatL.new.ownLt {B : Nat} {w : World} {c : CatL} (h : c.new B w) {b : Nat} (hb : beg c.a c.n b) : b < w.heap.size ∧ B ≤ b ∧ ∃ m F, w.rowIs b 58 m F := by
  obtain ⟨b', m, F, e, h1, _, h3⟩ := h.2 hb.1
  rw [hb.2] at e
  cases e
  exact ⟨h3.lt, h1, m, F, h3⟩
theorem IntL.new.ownLt {B : Nat} {w : World} {c : IntL} (h : c.new B w) {b : Nat} (hb : beg c.a c.n b) : b < w.heap.size ∧ B ≤ b ∧ ∃ m F, w.rowIs b 2 m F := by
  obtain ⟨b', m, F, e, h1, _, h3⟩ := h.2 hb.1
  rw [hb.2] at e
  cases e
  exact ⟨h3.lt, h1, m, F, h3⟩
theorem StrL.new.ownLt {B : Nat} {w : World} {c : StrL} (h : c.new B w) {b : Nat} (hb : beg c.a c.n b) : b < w.heap.size ∧ B ≤ b ∧ ∃ m F, w.rowIs b 9 m F := by
  obtain ⟨b', m, F, e, h1, _, h3⟩ := h.2 hb.1
  rw [hb.2] at e
  cases e
  exact ⟨h3.lt, h1, m, F, h3⟩
theorem CatL.new.touched {B : Nat} {w w' : World} {c : CatL} {H : Nat → Prop} (h : c.new B w) (t : Touched H w w') (ha : ∀ b, beg c.a c.n b → ¬ H b) : c.new B w' := h.of t.size (fun b e hn => t.block b (h.ownLt ⟨hn, e⟩).1 (ha b ⟨hn, e⟩))
theorem IntL.new.touched {B : Nat} {w w' : World} {c : IntL} {H : Nat → Prop} (h : c.new B w) (t : Touched H w w') (ha : ∀ b, beg c.a c.n b → ¬ H b) : c.new B w' := h.of t.size (fun b e hn => t.block b (h.ownLt ⟨hn, e⟩).1 (ha b ⟨hn, e⟩))
theorem StrL.new.touched {B : Nat} {w w' : World} {c : StrL} {H : Nat → Prop} (h : c.new B w) (t : Touched H w w') (ha : ∀ b, beg c.a c.n b → ¬ H b) : c.new B w' := h.of t.size (fun b e hn => t.block b (h.ownLt ⟨hn, e⟩).1 (ha b ⟨hn, e⟩))
theorem CatsAt.touched {w w' : World} {a : Option Addr} {n : Nat} {f g : Nat → Int} {H : Nat → Prop} (h : CatsAt w a n f g) (he : 0 < n → ∃ d, beg a n d) (t : Touched H w w') (ha : ∀ b, beg a n b → ¬ H b) : CatsAt w' a n f g := fun hn => by
  obtain ⟨b, off, e, hlt, hc⟩ := h hn
  obtain ⟨d, _, ed⟩ := he hn
  rw [ed] at e
  cases e
  have ce : ∀ o, w'.cell? ⟨b, o, none⟩ = w.cell? ⟨b, o, none⟩ := fun o => World.cell?_of_block (a := ⟨b, o, none⟩) (t.block b hlt (ha b ⟨hn, ed⟩))
  exact ⟨b, 0, ed, Nat.lt_of_lt_of_le hlt t.size, fun i hi => by rw [ce, ce]; exact hc i hi⟩
theorem IntsAt.touched {w w' : World} {a : Option Addr} {n : Nat} {f : Nat → Int} {H : Nat → Prop} (h : IntsAt w a n f) (he : 0 < n → ∃ d, beg a n d) (t : Touched H w w') (ha : ∀ b, beg a n b → ¬ H b) : IntsAt w' a n f := fun hn => by
  obtain ⟨b, off, e, hlt, hc⟩ := h hn
  obtain ⟨d, _, ed⟩ := he hn
  rw [ed] at e
  cases e
  have ce : ∀ o, w'.cell? ⟨b, o, none⟩ = w.cell? ⟨b, o, none⟩ := fun o => World.cell?_of_block (a := ⟨b, o, none⟩) (t.block b hlt (ha b ⟨hn, ed⟩))
  exact ⟨b, 0, ed, Nat.lt_of_lt_of_le hlt t.size, fun i hi => by rw [ce]; exact hc i hi⟩
theorem StrAt.touched {w w' : World} {a : Option Addr} {n : Nat} {f : Nat → ByteArray} {H : Nat → Prop} (h : StrAt w a n f) (he : 0 < n → ∃ d, beg a n d) (t : Touched H w w') (ha : ∀ b, beg a n b → ¬ H b) : StrAt w' a n f := fun hn => by
  obtain ⟨b, off, e, hlt, hc⟩ := h hn
  obtain ⟨d, _, ed⟩ := he hn
  rw [ed] at e
  cases e
  have ce : ∀ o, w'.cell? ⟨b, o, none⟩ = w.cell? ⟨b, o, none⟩ := fun o => World.cell?_of_block (a := ⟨b, o, none⟩) (t.block b hlt (ha b ⟨hn, ed⟩))
  exact ⟨b, 0, ed, Nat.lt_of_lt_of_le hlt t.size, fun i hi => by rw [ce]; exact hc i hi⟩
theorem CatL.new.begins {B : Nat} {w : World} {c : CatL} (h : c.new B w) : 0 < c.n → ∃ d, beg c.a c.n d := fun hn => by obtain ⟨b, _, _, e, _⟩ := h.2 hn; exact ⟨b, hn, e⟩
theorem IntL.new.begins {B : Nat} {w : World} {c : IntL} (h : c.new B w) : 0 < c.n → ∃ d, beg c.a c.n d := fun hn => by obtain ⟨b, _, _, e, _⟩ := h.2 hn; exact ⟨b, hn, e⟩
theorem StrL.new.begins {B : Nat} {w : World} {c : StrL} (h : c.new B w) : 0 < c.n → ∃ d, beg c.a c.n d := fun hn => by obtain ⟨b, _, _, e, _⟩ := h.2 hn; exact ⟨b, hn, e⟩

theorem markInt_t (c : IntL) (B : Nat) (k0 : Int) (w : World) (hn : c.n ≤ 1048576) (h0 : 0 ≤ k0) (h1 : k0 ≤ 1000000000000) (hr : c.new B w) :
    Calls Tryz.prog 38 #[.slice c.a c.n c.k, .int .i64 k0] w fun e w' => e = .returned (.int .i64 (k0 + c.n)) ∧ Touched (beg c.a c.n) w w' ∧ IntsAt w' c.a c.n (mkI k0) := by
  obtain ⟨b, hR, hE, hF⟩ := hr.rowI
  refine (markInt64S_any c.a b c.n c.k k0 w hn h0 h1 hR).mono ?_
  rintro e w' ⟨he, hg, hc⟩
  refine ⟨he, ⟨hg.os, hg.tape, hg.output, hg.size, fun k hk hn' => hg.block k hk (fun e => ?_)⟩, hc⟩
  have e := Option.some.inj e
  subst e
  by_cases h : 0 < c.n
  · exact hn' ⟨h, hE h⟩
  · have := hF h
    omega
theorem markStr_t (c : StrL) (B : Nat) (k0 : Int) (w : World) (hn : c.n ≤ 1048576) (h0 : 1 ≤ k0) (h1 : k0 ≤ 1000000000000) (hr : c.new B w) :
    Calls Tryz.prog 40 #[.slice c.a c.n c.k, .int .i64 k0] w fun e w' => e = .returned (.int .i64 (k0 + c.n)) ∧ Touched (beg c.a c.n) w w' ∧ StrAt w' c.a c.n (mkS k0.toNat) := by
  obtain ⟨k, rfl⟩ : ∃ k : Nat, k0 = k := ⟨k0.toNat, by omega⟩
  obtain ⟨b, hR, hF⟩ : ∃ b, RowS w c.a b c.n ∧ (¬ 0 < c.n → w.heap.size ≤ b) := by
    by_cases h : 0 < c.n
    · obtain ⟨b, m, F, e, _, h2, h3⟩ := hr.2 h
      exact ⟨b, fun _ => ⟨e, m, F, h2, h3⟩, fun h' => absurd h h'⟩
    · exact ⟨w.heap.size, fun h' => absurd h' h, fun _ => Nat.le_refl _⟩
  refine (markStringS_any c.a b c.n c.k k w hn (by omega) (by omega) hR).mono ?_
  rintro e w' ⟨he, hg, hc⟩
  refine ⟨by rw [he]; simp, ⟨hg.os, hg.tape, hg.output, hg.size, fun k hk hn' => hg.block k hk (fun e => ?_)⟩, by simpa using hc⟩
  have e := Option.some.inj e
  subst e
  by_cases h : 0 < c.n
  · exact hn' ⟨h, (hR h).1⟩
  · have := hF h
    omega
theorem heldStr_t (c : StrL) (k0 : Int) (w : World) (hn : c.n ≤ 1048576) (h0 : 1 ≤ k0) (h1 : k0 ≤ 1000000000000) (hc : StrAt w c.a c.n (mkS k0.toNat)) :
    Calls Tryz.prog 43 #[.slice c.a c.n c.k, .int .i64 k0] w fun e w' => e = .returned (.int .i64 (k0 + c.n)) ∧ Below w.heap.size w w' := by
  obtain ⟨k, rfl⟩ : ∃ k : Nat, k0 = k := ⟨k0.toNat, by omega⟩
  refine (heldStringS_any c.a c.n c.k k w hn (by omega) (by omega) (by simpa using hc)).mono ?_
  rintro e w' ⟨he, hb⟩
  exact ⟨by rw [he]; simp, hb⟩

def ObjV.has (g : ObjV) (b : Nat) : Prop := beg g.c1.a g.c1.n b ∨ beg g.items.a g.items.n b ∨ beg g.own.a g.own.n b ∨ beg g.c2.a g.c2.n b
def MarkedO (g : ObjV) (w : World) : Prop := CatsAt w g.c1.a g.c1.n (mk1 1) (mk2 1) ∧ StrAt w g.items.a g.items.n (mkS ((1 + 2 * g.c1.n) : Int).toNat) ∧ IntsAt w g.own.a g.own.n (mkI (1 + 2 * g.c1.n + g.items.n)) ∧ CatsAt w g.c2.a g.c2.n (mk1 (1 + 2 * g.c1.n + g.items.n + g.own.n)) (mk2 (1 + 2 * g.c1.n + g.items.n + g.own.n))
theorem MarkedO.below {g : ObjV} {w w' : World} (h : MarkedO g w) (hb : Below w.heap.size w w') : MarkedO g w' := ⟨h.1.below hb, h.2.1.below hb, h.2.2.1.below hb, h.2.2.2.below hb⟩
theorem ObjV.new.apts {B : Nat} {w : World} {g : ObjV} (h : g.new B w) (ha : g.apart) : Apt g.c1.a g.c1.n g.items.a g.items.n ∧ Apt g.c1.a g.c1.n g.own.a g.own.n ∧ Apt g.c1.a g.c1.n g.c2.a g.c2.n ∧ Apt g.items.a g.items.n g.own.a g.own.n ∧ Apt g.items.a g.items.n g.c2.a g.c2.n ∧ Apt g.own.a g.own.n g.c2.a g.c2.n := by
  refine ⟨fun b h1 h2 => ?_, fun b h1 h2 => ?_, fun b h1 h2 => ha b b h1.2 h1.1 h2.2 h2.1 rfl, fun b h1 h2 => ?_, fun b h1 h2 => ?_, fun b h1 h2 => ?_⟩
  · obtain ⟨_, _, _, _, r1⟩ := h.1.ownLt h1
    obtain ⟨_, _, _, _, r2⟩ := h.2.1.ownLt h2
    exact row_ne r1 r2 (by decide) rfl
  · obtain ⟨_, _, _, _, r1⟩ := h.1.ownLt h1
    obtain ⟨_, _, _, _, r2⟩ := h.2.2.1.ownLt h2
    exact row_ne r1 r2 (by decide) rfl
  · obtain ⟨_, _, _, _, r1⟩ := h.2.1.ownLt h1
    obtain ⟨_, _, _, _, r2⟩ := h.2.2.1.ownLt h2
    exact row_ne r1 r2 (by decide) rfl
  · obtain ⟨_, _, _, _, r1⟩ := h.2.1.ownLt h1
    obtain ⟨_, _, _, _, r2⟩ := h.2.2.2.ownLt h2
    exact row_ne r1 r2 (by decide) rfl
  · obtain ⟨_, _, _, _, r1⟩ := h.2.2.1.ownLt h1
    obtain ⟨_, _, _, _, r2⟩ := h.2.2.2.ownLt h2
    exact row_ne r1 r2 (by decide) rfl

end Go.Proofs.YtjceaajnemgheaaGreatDoor
