/- The reader: what off and label leave. -/
import Derived.Test.YthbmfbnnemgbpaaGreatDoorZ32
import Derived.Deep.RegionHeld
import Derived.Maps.Own
namespace Go.Proofs.YthbmfbnnemgbpaaGreatDoor
open Go.RowKit Go.Deep Go.Maps
set_option maxRecDepth 100000 in
set_option maxHeartbeats 2000000 in
theorem off_any (w0 : World) (rb : Nat) (a : Option Addr) (n cap : Nat) (lo hi : Nat) (w : World) (hl : lo ≤ hi) (hh : hi ≤ 1000) (h : Rd w0 w rb a n cap) :
 Calls Tryz.prog 43 #[.pointer (some ⟨rb, 0, none⟩), .int .i64 lo, .int .i64 hi] w fun e w' => ∃ x : Int, e = .returned (.int .i64 x) ∧ Rd w0 w' rb a n cap ∧ w.grownBy w' (some rb) := by
 have HR : Hid (Rd w0 w rb a n cap) := h
 clear h
 have w1 : IntKind.i64.wrap ((lo : Int) - 1) = (lo : Int) - 1 := by rw [IntKind.wrap_i64]; omega
 have w2 : IntKind.i64.wrap ((hi : Int) + 1) = (hi : Int) + 1 := by rw [IntKind.wrap_i64]; omega
 go_enter Tryz.func43, Tryz.ntmps43
 go_wp2_with fail
 refine (once_any w0 rb a n cap 24 _ (by omega) HR.out).mono ?_
 rintro e u1 ⟨t, rfl, R1, g1⟩
 have HR1 : Hid (Rd w0 u1 rb a n cap) := R1
 clear R1
 cases t with
 | true =>
  go_wp2_with fail
  have lr := HR1.out.lt
  refine (rdBelow_any w0 rb a n cap 4 _ (by omega) (HR1.out.below ((Below.refl _ _).alloc (Nat.le_refl _) _))).mono ?_
  rintro e u2 ⟨x, rfl, _, x4, R2, g2⟩
  have x4' := x4 (by omega)
  have HR2 : Hid (Rd w0 u2 rb a n cap) := R2
  have gN : w.grownBy u2 (some rb) := grown_pair (grown_trans g1 (World.grownBy_alloc u1 _ none) (fun j e => by cases e)) g2
  have Bk : Blk u2 u1.heap.size (.cells #[.int .i64 ((lo : Int) - 1), .int .i64 ((hi : Int) + 1), .int .i64 (-9223372036854775808), .int .i64 9223372036854775807] 2) := (Blk.new u1 _).grown g2 (by simp; omega)
  unfold Blk at Bk
  have c0 : u2.cell? ⟨u1.heap.size, 0, none⟩ = some (.int .i64 ((lo : Int) - 1)) := by simp [World.cell?, Bk]
  have c1 : u2.cell? ⟨u1.heap.size, 1, none⟩ = some (.int .i64 ((hi : Int) + 1)) := by simp [World.cell?, Bk]
  have c2 : u2.cell? ⟨u1.heap.size, 2, none⟩ = some (.int .i64 (-9223372036854775808)) := by simp [World.cell?, Bk]
  have c3 : u2.cell? ⟨u1.heap.size, 3, none⟩ = some (.int .i64 9223372036854775807) := by simp [World.cell?, Bk]
  clear R2 x4 Bk g2
  have hx : x = 0 ∨ x = 1 ∨ x = 2 ∨ x = 3 := by omega
  rcases hx with rfl | rfl | rfl | rfl
  all_goals
   clear x4'
   go_wp2
   go_ret
   exact ⟨_, rfl, HR2.out, gN⟩
 | false =>
  go_wp2_with fail
  refine (near_any w0 rb a n cap lo hi _ hl hh HR1.out).mono ?_
  rintro e u2 ⟨x, rfl, R2, g2⟩
  have HR2 : Hid (Rd w0 u2 rb a n cap) := R2
  clear R2
  go_wp2
  go_ret
  exact ⟨_, rfl, HR2.out, grown_pair g1 g2⟩
end Go.Proofs.YthbmfbnnemgbpaaGreatDoor
namespace Go.Proofs.YthbmfbnnemgbpaaGreatDoor
open Go Go.RowKit Go.Deep Go.Maps
section
variable {P : Program} {ops : Array Oper} {Q : Exit → Act → World → Prop} {md : Region.Mode} {S : World → Prop} {n : Nat}
def AnyL (P : Program) (md : Region.Mode) (ops : Array Oper) (Q : Exit → Act → World → Prop) (S : World → Prop) (n : Nat) (f : Nat) (L : Array Bool) (a : Act) (w : World) : Prop :=
 match f with
 | 0 => Region.ready md ops L = [] ∧ Q .normal a w
 | f + 1 => (Region.ready md ops L = [] → Q .normal a w) ∧
  ∀ i ∈ Region.ready md ops L, wpOp P ops Q i (fun a' w' => (i ≠ n → S w') ∧ AnyL P md ops Q S n f (L.setIfInBounds i true) a' w') a w
theorem AnyL.any {f : Nat} : ∀ {L : Array Bool} {a : Act} {w : World}, AnyL P md ops Q S n f L a w → wpAny P md ops Q f L a w := by
 induction f with
 | zero => intro L a w h; exact h
 | succ f ih => intro L a w h; exact ⟨h.1, fun i hi => wpOp_mono (fun _ _ k => ih k.2) (h.2 i hi)⟩
theorem ready_unlisted {i : Nat} {L : Array Bool} (h : i ∈ Region.ready md ops L) : L.getD i false = false := by
 have h0 := (mem_ready.1 h).1
 by_cases hl : i < L.size
 ·simp [hl] at h0 ⊢; exact h0
 ·simp [Array.getElem?_eq_none (Nat.le_of_not_lt hl)]
theorem AnyL.takes {i : Nat} {oi : Oper} {v : Value} (hi : ops[i]? = some oi) (hs : Region.noSelect ops = true)
 (hwait : ∀ o, ops[n]? = some o → ∃ e ∈ o.after, Region.binds md e = true ∧ e.on = i)
 (hQ : ∀ c a w, Q (.panic c) (a.put oi.dst v) w → Q (.panic c) a w) (f : Nat) : ∀ {L : Array Bool} {a : Act} {w : World},
 (∀ j oj, ops[j]? = some oj → j ≠ i → L.getD j true = false → (∀ e ∈ oj.after, Region.binds md e = true → e.on ≠ i) → oi.apart ops oj = true) →
 i ∈ Region.ready md ops L → YieldsIf P ops S oi v a → S w → AnyL P md ops Q S n f (L.setIfInBounds i true) (a.put oi.dst v) w → AnyL P md ops Q S n (f + 1) L a w := by
 have sel := Region.noSelect_spec hs
 induction f with
 | zero =>
  intro L a w _ hr hy hS H
  refine ⟨fun e => absurd hr (by rw [e]; simp), fun j hj => ?_⟩
  by_cases e : j = i
  ·subst e; exact hy.wpOp hi hS ⟨fun _ => hS, H⟩
  ·have := ready_mono hj e
   rw [H.1] at this
   simp at this
 | succ f ih =>
  intro L a w hfree hr hy hS H
  refine ⟨fun e => absurd hr (by rw [e]; simp), fun j hj => ?_⟩
  by_cases e : j = i
  ·subst e; exact hy.wpOp hi hS ⟨fun _ => hS, H⟩
  ·obtain ⟨hun, oj, hoj, hall⟩ := mem_ready.1 hj
   have un := ready_unlisted hr
   have apart : ∀ x ∈ oj.after, Region.binds md x = true → x.on ≠ i := fun x hx hb hq => by
    have := hall x hx hb
    rw [hq, un] at this
    cases this
   have hjn : j ≠ n := fun hq => by
    obtain ⟨x, hx, hb, ho⟩ := hwait oj (by rw [← hq]; exact hoj)
    exact apart x hx hb ho
   refine wpOp_mono (fun a' w' k => ⟨fun _ => k.2.1 hjn, ?_⟩) (wpOp_putIf hoj (hfree j oj hoj e hun apart) (fun cs b => sel i oi cs b hi) (fun cs b => sel j oj cs b hoj) hQ hy (H.2 j (ready_mono hj e)))
   refine ih (fun k ok hk hki hkl hkn => hfree k ok hk hki ?_ hkn) (ready_mono hr (Ne.symm e)) k.1 (k.2.1 hjn) ?_
   ·by_cases q : j = k
    ·subst q; exact hun
    ·rw [getD_set_ne true q] at hkl; exact hkl
   ·rw [Array.setIfInBounds_comm _ _ e]; exact k.2.2
def waitsL (md : Region.Mode) (ops : Array Oper) (n i : Nat) : Bool := match ops[n]? with
 | some o => o.after.any (fun e => Region.binds md e && e.on == i)
 | none => true
theorem waits_out {i : Nat} (h : waitsL md ops n i = true) : ∀ o, ops[n]? = some o → ∃ e ∈ o.after, Region.binds md e = true ∧ e.on = i := fun o ho => by
 unfold waitsL at h
 rw [ho] at h
 dsimp only at h
 obtain ⟨e, he, hb⟩ := Array.any_eq_true'.1 h
 simp only [Bool.and_eq_true, beq_iff_eq] at hb
 exact ⟨e, he, hb⟩
theorem AnyL.take {i : Nat} {oi : Oper} (v : Value) {f : Nat} {L : Array Bool} {a : Act} {w : World} (hi : ops[i]? = some oi) (hs : Region.noSelect ops = true) (hf : Region.free md ops L i = true)
 (hr : (Region.ready md ops L).contains i = true) (hw : waitsL md ops n i = true) (hQ : ∀ c a w, Q (.panic c) (a.put oi.dst v) w → Q (.panic c) a w) (hS : S w)
 (hy : YieldsIf P ops S oi v a) (h : AnyL P md ops Q S n f (L.setIfInBounds i true) (a.put oi.dst v) w) : AnyL P md ops Q S n (f + 1) L a w :=
 AnyL.takes hi hs (waits_out hw) hQ f (Region.free_spec hi hf) (by simpa using hr) hy hS h
theorem AnyL.one {i : Nat} {o : Oper} {f : Nat} {L : Array Bool} {a : Act} {w : World} (hi : ops[i]? = some o) (hr : Region.ready md ops L = [i])
 (h : ∀ K' : Act → World → Prop, Hid (∀ a w, (i ≠ n → S w) → AnyL P md ops Q S n f (L.setIfInBounds i true) a w → K' a w) → if Region.wanted o (yielded ops a.tmps) = true then Oper.wp P o a w K' Q else K' (a.put o.dst undef) w) : AnyL P md ops Q S n (f + 1) L a w :=
 ⟨fun e => absurd (hr.symm.trans e) (by simp), fun j hj => by
   rw [hr] at hj
   obtain rfl : j = i := by simpa using hj
   exact wpOp_step hi (fun K' hK => h K' (fun a w h1 h2 => hK a w ⟨h1, h2⟩))⟩
theorem AnyL.done {f : Nat} {L : Array Bool} {a : Act} {w : World} (hr : Region.ready md ops L = []) (h : Q .normal a w) : AnyL P md ops Q S n f L a w := by
 cases f with
 | zero => exact ⟨hr, h⟩
 | succ f => exact ⟨fun _ => h, fun i hi => by rw [hr] at hi; simp at hi⟩
theorem AnyL.region {id : Nat} {a : Act} {w : World} (S : World → Prop) (n : Nat) (hm : P.follows .mixedOrders = true) (h : AnyL P .any ops Q S n ops.size (Array.replicate ops.size false) a w.drew) : (Code.region id ops true).wp P Q a w :=
 wp_region_any hm h.any
end
end Go.Proofs.YthbmfbnnemgbpaaGreatDoor
namespace Go.Proofs.YthbmfbnnemgbpaaGreatDoor
open Go.RowKit Go.Deep Go.Maps
theorem insTo_len1 (base : Int) (f g : Nat → Int) (cat level : Int) (k : Nat) : (insTo base f g cat level k).1.length ≤ k + (insTo base f g cat level k).2.toNat := by
 induction k with
 | zero => simp [insTo]
 | succ k ih =>
  generalize hR : insTo base f g cat level k = r at ih
  obtain ⟨l, d⟩ := r
  rw [insTo_succ hR]
  dsimp only at ih ⊢
  have h2 : (putQ l d cat level (f k)).1.length ≤ k + (putQ l d cat level (f k)).2.toNat := by
   unfold putQ
   cases d with
   | true => simpa using ih
   | false =>
    split
    ·simp only [List.length_append, List.length_singleton, Bool.toNat_true]
     simp only [Bool.toNat_false] at ih
     omega
    ·exact ih
  split
  ·omega
  ·rw [List.length_append]; show _ + 1 ≤ _; omega
theorem insFin_len1 (base : Int) (n : Nat) (f g : Nat → Int) (cat level : Int) : (insFin base n f g cat level).length ≤ n + 1 := by
 have := insTo_len1 base f g cat level n
 unfold insFin
 dsimp only
 generalize insTo base f g cat level n = r at this
 obtain ⟨l, d⟩ := r
 cases d with
 | true => simpa using this
 | false =>
  simp only [Bool.toNat_false] at this
  simp only [Bool.false_eq_true, if_false, List.length_append, List.length_singleton]
  omega
structure LSt (w0 w W : World) (rb : Nat) (a : Option Addr) (n cap : Nat) (Z : Nat) (base : Int) (va : Option Addr) (vc : Nat) (l : List (Int × Int)) : Prop where
 z : Blk W Z (.cells #[.int .i64 base, .slice va l.length vc] 26)
 r : Rd w0 W rb a n cap
 o : OwnList W (Z + 1) (.slice va l.length vc) l
 g : w.grownBy W (some rb)
section
variable {w0 w W W' : World} {rb : Nat} {a : Option Addr} {n cap Z : Nat} {base : Int} {va : Option Addr} {vc : Nat} {l : List (Int × Int)}
theorem LSt.below (h : LSt w0 w W rb a n cap Z base va vc l) (hb : Below W.heap.size W W') : LSt w0 w W' rb a n cap Z base va vc l :=
 ⟨h.z.below hb, h.r.below hb, OwnList.below h.o hb, grown_below h.g hb⟩
theorem LSt.call (h : LSt w0 w W rb a n cap Z base va vc l) (hz : rb < Z) (r : Rd w0 W' rb a n cap) (hg : W.grownBy W' (some rb)) : LSt w0 w W' rb a n cap Z base va vc l :=
 ⟨h.z.grown hg (by simp; omega), r, World.ownsRow.kept h.o hg (Or.inr (fun e => by have := (World.ownsRow.lt h.o _ e).1; omega)), grown_pair h.g hg⟩
theorem grown_over {x y : World} {P Z : Nat} (h : x.grownBy y (some P)) (hz : x.heap.size ≤ Z) (i : Nat) (v : Value) : x.grownBy (y.setCell ⟨Z, i, none⟩ v) (some P) :=
 ⟨h.os, h.tape, h.output, by rw [nblk_setCell]; exact h.size, fun j hj hne => (blk_setCell_other _ _ _ _ (by dsimp only; omega)).trans (h.block j hj hne)⟩
theorem Rd.set (h : Rd w0 W rb a n cap) (hz : rb < Z) (i : Nat) (v : Value) : Rd w0 (W.setCell ⟨Z, i, none⟩ v) rb a n cap := by
 obtain ⟨E, le, by', hn, p, hp, hB⟩ := h
 exact ⟨E.setCell (by dsimp only; omega) _, le, by', hn, p, hp, (blk_setCell_other _ _ _ _ (by dsimp only; omega)).trans hB⟩
theorem LSt.put {l' : List (Int × Int)} {ua : Option Addr} {uc : Nat} (h : LSt w0 w W rb a n cap Z base va vc l) (hz : rb < Z) (hw : w.heap.size ≤ Z) (o' : OwnList W (Z + 1) (.slice ua l'.length uc) l') :
 LSt w0 w ((W.setCell ⟨Z, 0, none⟩ (.int .i64 base)).setCell ⟨Z, 1, none⟩ (.slice ua l'.length uc)) rb a n cap Z base ua uc l' :=
 ⟨(h.z.set0 _).set1 _, (h.r.set hz _ _).set hz _ _, OwnList.set (OwnList.set o' (by omega) _ _) (by omega) _ _, grown_over (grown_over h.g hw _ _) hw _ _⟩
theorem LSt.put0 (h : LSt w0 w W rb a n cap Z base va vc l) (hz : rb < Z) (hw : w.heap.size ≤ Z) (b' : Int) :
 LSt w0 w (W.setCell ⟨Z, 0, none⟩ (.int .i64 b')) rb a n cap Z b' va vc l :=
 ⟨h.z.set0 _, h.r.set hz _ _, OwnList.set h.o (by omega) _ _, grown_over h.g hw _ _⟩
theorem LSt.frame {row : Option Nat} (h : LSt w0 w W rb a n cap Z base va vc l) (hz : rb < Z) (hw : w.heap.size ≤ Z) (hg : W.grownBy W' row) (hr : ∀ j, row = some j → Z + 1 ≤ j) :
 Blk W' Z (.cells #[.int .i64 base, .slice va l.length vc] 26) ∧ Rd w0 W' rb a n cap ∧ w.grownBy W' (some rb) := by
 refine ⟨h.z.grown hg (fun e => by have := hr Z e.symm; omega), ?_, grown_trans h.g hg (fun j e => by have := hr j e; omega)⟩
 obtain ⟨E, le, by', hn, p, hp, hB⟩ := h.r
 exact ⟨E.grown hg E.size (fun j e => by have := hr j e; omega), le, by', hn, p, hp, hB.grown hg (fun e => by have := hr rb e.symm; omega)⟩
end
def litv (x : Nat) : Int := if x = 0 then 1001 else if x = 1 then 2001 else if x = 2 then 3001 else 5
theorem lit_cell {W : World} {q : Nat} (h : Blk W q (.cells #[.int .i64 1001, .int .i64 2001, .int .i64 3001, .int .i64 5] 2)) {x : Nat} (hx : x < 4) : W.cell? ⟨q, x, none⟩ = some (.int .i64 (litv x)) := by
 unfold Blk at h
 have : x = 0 ∨ x = 1 ∨ x = 2 ∨ x = 3 := by omega
 rcases this with rfl | rfl | rfl | rfl <;> simp [World.cell?, h, litv]
section
variable {P : Program} {ops : Array Oper} {Q : Exit → Act → World → Prop} {md : Region.Mode} {S : World → Prop} {n : Nat}
theorem AnyL.two {i j : Nat} {oi oj : Oper} {f : Nat} {L : Array Bool} {a : Act} {w : World} (hi : ops[i]? = some oi) (hj : ops[j]? = some oj) (hr : Region.ready md ops L = [i, j])
 (h1 : ∀ K' : Act → World → Prop, Hid (∀ a w, (i ≠ n → S w) → AnyL P md ops Q S n f (L.setIfInBounds i true) a w → K' a w) → if Region.wanted oi (yielded ops a.tmps) = true then Oper.wp P oi a w K' Q else K' (a.put oi.dst undef) w)
 (h2 : ∀ K' : Act → World → Prop, Hid (∀ a w, (j ≠ n → S w) → AnyL P md ops Q S n f (L.setIfInBounds j true) a w → K' a w) → if Region.wanted oj (yielded ops a.tmps) = true then Oper.wp P oj a w K' Q else K' (a.put oj.dst undef) w) : AnyL P md ops Q S n (f + 1) L a w :=
 ⟨fun e => absurd (hr.symm.trans e) (by simp), fun k hk => by
   rw [hr] at hk
   have : k = i ∨ k = j := by simpa using hk
   rcases this with rfl | rfl
   ·exact wpOp_step hi (fun K' hK => h1 K' (fun a w q1 q2 => hK a w ⟨q1, q2⟩))
   ·exact wpOp_step hj (fun K' hK => h2 K' (fun a w q1 q2 => hK a w ⟨q1, q2⟩))⟩
end
end Go.Proofs.YthbmfbnnemgbpaaGreatDoor
