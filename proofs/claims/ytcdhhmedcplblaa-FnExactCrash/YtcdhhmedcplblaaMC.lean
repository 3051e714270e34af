/- Marks in disks; two disks of the same content are the same. -/
import Derived.Test.YtcdhhmedcplblaaMB
namespace Go.Proofs.Ytcdhhmedcplblaa
open Go Go.RowKit Go.Deep Go.Maps

theorem RowFile.block {w : World} {v : Value} {n b : Nat} (h : RowFile w v n) (hb : v.ownBlock = some b) : ∃ cur, w.heap[b]? = some (.cells cur 72 (0, 0)) := by
  rcases h with ⟨_, c, rfl⟩ | ⟨b', cap, N, F, rfl, ⟨cur, h, _⟩, _⟩
  · cases hb
  · have e : b' = b := by simpa [Value.ownBlock] using hb
    exact ⟨cur, e ▸ h⟩
theorem RowOp.block {w : World} {v : Value} {n b : Nat} (h : RowOp w v n) (hb : v.ownBlock = some b) : ∃ cur, w.heap[b]? = some (.cells cur 37 (0, 0)) := by
  rcases h with ⟨_, c, rfl⟩ | ⟨b', cap, N, F, rfl, ⟨cur, h, _⟩, _⟩
  · cases hb
  · have e : b' = b := by simpa [Value.ownBlock] using hb
    exact ⟨cur, e ▸ h⟩
theorem rows_apart {w : World} {v u : Value} {n m : Nat} (h : RowFile w v n) (k : RowOp w u m) : v.ownBlock = none ∨ v.ownBlock ≠ u.ownBlock := by
  cases hv : v.ownBlock with
  | none => exact .inl rfl
  | some b =>
    refine .inr (fun e => ?_)
    obtain ⟨c1, h1⟩ := h.block hv
    obtain ⟨c2, h2⟩ := k.block e.symm
    rw [h1] at h2
    simp at h2
theorem apart_symm {a b : Option Nat} (h : a = none ∨ a ≠ b) : b = none ∨ b ≠ a := by
  cases b with
  | none => exact .inl rfl
  | some x =>
    rcases h with h | h
    · subst h; exact .inr (fun e => by cases e)
    · exact .inr (fun e => h e.symm)
/-- only blocks from lo below hi were written -/
structure Mk (lo hi : Nat) (w w' : World) : Prop where
  os : w'.os = w.os
  tape : w'.tape = w.tape
  output : w'.output = w.output
  size : w.heap.size ≤ w'.heap.size
  block : ∀ k, k < w.heap.size → (k < lo ∨ hi ≤ k) → w'.heap[k]? = w.heap[k]?
theorem Mk.of_grown {lo hi : Nat} {w w' : World} {r : Option Nat} (h : w.grownBy w' r) (hr : ∀ b, r = some b → lo ≤ b ∧ b < hi) : Mk lo hi w w' :=
  ⟨h.os, h.tape, h.output, h.size, fun k hk hn => h.block k hk (fun e => by have := hr k e.symm; omega)⟩
theorem Mk.of_below {lo hi : Nat} {w w' : World} (h : Below w.heap.size w w') : Mk lo hi w w' := ⟨h.os, h.tape, h.output, h.size, fun k hk _ => h.block k hk⟩
theorem Mk.trans {lo hi : Nat} {a b c : World} (h : Mk lo hi a b) (k : Mk lo hi b c) : Mk lo hi a c :=
  ⟨k.os.trans h.os, k.tape.trans h.tape, k.output.trans h.output, Nat.le_trans h.size k.size, fun i hi hn => (k.block i (Nat.lt_of_lt_of_le hi h.size) hn).trans (h.block i hi hn)⟩
theorem Mk.below {lo hi B : Nat} {w w' : World} (h : Mk lo hi w w') (hB : B ≤ lo) (hs : B ≤ w.heap.size) : Below B w w' := ⟨h.os, h.tape, h.output, h.size, fun k hk => h.block k (Nat.lt_of_lt_of_le hk hs) (.inl (Nat.lt_of_lt_of_le hk hB))⟩
/-- the three lists of a disk, each a row of its own in lo .. hi -/
structure RowD (w : World) (lo hi : Nat) (vl vs vo : Value) (nl ns no : Nat) : Prop where
  l : RowFile w vl nl
  s : RowFile w vs ns
  o : RowOp w vo no
  ap : vl.ownBlock = none ∨ vl.ownBlock ≠ vs.ownBlock
  inl : ∀ b, vl.ownBlock = some b → lo ≤ b ∧ b < hi
  ins : ∀ b, vs.ownBlock = some b → lo ≤ b ∧ b < hi
  ino : ∀ b, vo.ownBlock = some b → lo ≤ b ∧ b < hi
theorem RowD.below {w w' : World} {lo hi : Nat} {vl vs vo : Value} {nl ns no : Nat} (h : RowD w lo hi vl vs vo nl ns no) (hb : Below w.heap.size w w') : RowD w' lo hi vl vs vo nl ns no :=
  ⟨h.l.kept (grown_of_below' none hb) (by cases vl.ownBlock <;> simp), h.s.kept (grown_of_below' none hb) (by cases vs.ownBlock <;> simp), h.o.kept (grown_of_below' none hb) (by cases vo.ownBlock <;> simp), h.ap, h.inl, h.ins, h.ino⟩
/-- what a disk's value holds -/
def DAt (w : World) (vl vs vo : Value) (nl ns no : Nat) (fl fs : Nat → FileV) (fo : Nat → OpV) : Prop := AtFile w vl nl fl ∧ AtFile w vs ns fs ∧ AtOp w vo no fo
theorem AtFile.below {w w' : World} {v : Value} {n : Nat} {f : Nat → FileV} (h : AtFile w v n f) (hb : Below w.heap.size w w') : AtFile w' v n f := h.kept (grown_of_below' none hb) (by cases v.ownBlock <;> simp)
theorem AtOp.below {w w' : World} {v : Value} {n : Nat} {f : Nat → OpV} (h : AtOp w v n f) (hb : Below w.heap.size w w') : AtOp w' v n f := h.kept (grown_of_below' none hb) (by cases v.ownBlock <;> simp)
theorem DAt.below {w w' : World} {vl vs vo : Value} {nl ns no : Nat} {fl fs : Nat → FileV} {fo : Nat → OpV} (h : DAt w vl vs vo nl ns no fl fs fo) (hb : Below w.heap.size w w') : DAt w' vl vs vo nl ns no fl fs fo := ⟨h.1.below hb, h.2.1.below hb, h.2.2.below hb⟩
theorem AtFile.mk {lo hi : Nat} {w w' : World} {v : Value} {n : Nat} {f : Nat → FileV} (h : AtFile w v n f) (hm : Mk lo hi w w') (hne : 0 < n → ∀ b, v.ownBlock = some b → b < lo ∨ hi ≤ b) : AtFile w' v n f := by
  obtain ⟨a, c, rfl, h⟩ := h
  refine ⟨a, c, rfl, fun hn => ?_⟩
  obtain ⟨b, off, rfl, hlt, hc⟩ := h hn
  have e : w'.heap[b]? = w.heap[b]? := hm.block b hlt (hne hn b rfl)
  have hcell : ∀ o, w'.cell? ⟨b, o, none⟩ = w.cell? ⟨b, o, none⟩ := fun o => World.cell?_of_block (a := ⟨b, o, none⟩) e
  exact ⟨b, off, rfl, Nat.lt_of_lt_of_le hlt hm.size, fun i hi => by simp only [hcell]; exact hc i hi⟩
theorem AtOp.mk {lo hi : Nat} {w w' : World} {v : Value} {n : Nat} {f : Nat → OpV} (h : AtOp w v n f) (hm : Mk lo hi w w') (hne : 0 < n → ∀ b, v.ownBlock = some b → b < lo ∨ hi ≤ b) : AtOp w' v n f := by
  obtain ⟨a, c, rfl, h⟩ := h
  refine ⟨a, c, rfl, fun hn => ?_⟩
  obtain ⟨b, off, rfl, hlt, hc⟩ := h hn
  have e : w'.heap[b]? = w.heap[b]? := hm.block b hlt (hne hn b rfl)
  have hcell : ∀ o, w'.cell? ⟨b, o, none⟩ = w.cell? ⟨b, o, none⟩ := fun o => World.cell?_of_block (a := ⟨b, o, none⟩) e
  exact ⟨b, off, rfl, Nat.lt_of_lt_of_le hlt hm.size, fun i hi => by simp only [hcell]; exact hc i hi⟩
/-- marks elsewhere leave a disk as it is -/
theorem DAt.mk {lo hi : Nat} {w w' : World} {vl vs vo : Value} {nl ns no : Nat} {fl fs : Nat → FileV} {fo : Nat → OpV} (h : DAt w vl vs vo nl ns no fl fs fo) (hm : Mk lo hi w w')
    (h1 : 0 < nl → ∀ b, vl.ownBlock = some b → b < lo ∨ hi ≤ b) (h2 : 0 < ns → ∀ b, vs.ownBlock = some b → b < lo ∨ hi ≤ b) (h3 : 0 < no → ∀ b, vo.ownBlock = some b → b < lo ∨ hi ≤ b) : DAt w' vl vs vo nl ns no fl fs fo :=
  ⟨h.1.mk hm h1, h.2.1.mk hm h2, h.2.2.mk hm h3⟩
theorem AtFile.low {w : World} {v : Value} {n : Nat} {f : Nat → FileV} (h : AtFile w v n f) : 0 < n → ∀ b, v.ownBlock = some b → b < w.heap.size := fun hn b hb => by
  obtain ⟨a, c, rfl, h⟩ := h
  obtain ⟨b', off, rfl, hlt, _⟩ := h hn
  have e : b' = b := by simpa [Value.ownBlock] using hb
  exact e ▸ hlt
theorem AtOp.low {w : World} {v : Value} {n : Nat} {f : Nat → OpV} (h : AtOp w v n f) : 0 < n → ∀ b, v.ownBlock = some b → b < w.heap.size := fun hn b hb => by
  obtain ⟨a, c, rfl, h⟩ := h
  obtain ⟨b', off, rfl, hlt, _⟩ := h hn
  have e : b' = b := by simpa [Value.ownBlock] using hb
  exact e ▸ hlt
/-- a disk's lists lie below P -/
def LowD (P : Nat) (vl vs vo : Value) (nl ns no : Nat) : Prop := (0 < nl → ∀ b, vl.ownBlock = some b → b < P) ∧ (0 < ns → ∀ b, vs.ownBlock = some b → b < P) ∧ (0 < no → ∀ b, vo.ownBlock = some b → b < P)
theorem DAt.low {w : World} {vl vs vo : Value} {nl ns no : Nat} {fl fs : Nat → FileV} {fo : Nat → OpV} (h : DAt w vl vs vo nl ns no fl fs fo) : LowD w.heap.size vl vs vo nl ns no := ⟨h.1.low, h.2.1.low, h.2.2.low⟩
theorem DAt.under {lo hi P : Nat} {w w' : World} {vl vs vo : Value} {nl ns no : Nat} {fl fs : Nat → FileV} {fo : Nat → OpV} (h : DAt w vl vs vo nl ns no fl fs fo) (hm : Mk lo hi w w') (hl : LowD P vl vs vo nl ns no) (hP : P ≤ lo) : DAt w' vl vs vo nl ns no fl fs fo :=
  h.mk hm (fun hn b hb => .inl (Nat.lt_of_lt_of_le (hl.1 hn b hb) hP)) (fun hn b hb => .inl (Nat.lt_of_lt_of_le (hl.2.1 hn b hb) hP)) (fun hn b hb => .inl (Nat.lt_of_lt_of_le (hl.2.2 hn b hb) hP))
theorem DAt.over {lo hi lo' hi' : Nat} {w w' W : World} {vl vs vo : Value} {nl ns no : Nat} {fl fs : Nat → FileV} {fo : Nat → OpV} (h : DAt w vl vs vo nl ns no fl fs fo) (hm : Mk lo hi w w') (hr : RowD W lo' hi' vl vs vo nl ns no) (hP : hi ≤ lo') : DAt w' vl vs vo nl ns no fl fs fo :=
  h.mk hm (fun _ b hb => .inr (Nat.le_trans hP (hr.inl b hb).1)) (fun _ b hb => .inr (Nat.le_trans hP (hr.ins b hb).1)) (fun _ b hb => .inr (Nat.le_trans hP (hr.ino b hb).1))
theorem RowFile.mk {lo hi : Nat} {w w' : World} {v : Value} {n : Nat} (h : RowFile w v n) (hm : Mk lo hi w w') (hne : ∀ b, v.ownBlock = some b → b < lo ∨ hi ≤ b) : RowFile w' v n := by
  rcases h with h | ⟨b, cap, N, F, rfl, h, hn⟩
  · exact .inl h
  · exact .inr ⟨b, cap, N, F, rfl, h.of_block (hm.block b h.lt (hne b rfl)), hn⟩
theorem RowOp.mk {lo hi : Nat} {w w' : World} {v : Value} {n : Nat} (h : RowOp w v n) (hm : Mk lo hi w w') (hne : ∀ b, v.ownBlock = some b → b < lo ∨ hi ≤ b) : RowOp w' v n := by
  rcases h with h | ⟨b, cap, N, F, rfl, h, hn⟩
  · exact .inl h
  · exact .inr ⟨b, cap, N, F, rfl, h.of_block (hm.block b h.lt (hne b rfl)), hn⟩
theorem RowD.mark {lo hi lo' hi' : Nat} {w w' : World} {vl vs vo : Value} {nl ns no : Nat} (h : RowD w lo' hi' vl vs vo nl ns no) (hm : Mk lo hi w w') (hd : hi ≤ lo' ∨ hi' ≤ lo) : RowD w' lo' hi' vl vs vo nl ns no :=
  ⟨h.l.mk hm (fun b hb => by have := h.inl b hb; omega), h.s.mk hm (fun b hb => by have := h.ins b hb; omega), h.o.mk hm (fun b hb => by have := h.ino b hb; omega), h.ap, h.inl, h.ins, h.ino⟩
theorem Blk.mk {lo hi : Nat} {w w' : World} {P : Nat} {o : Obj} (h : Blk w P o) (hm : Mk lo hi w w') (hP : P < lo ∨ hi ≤ P) : Blk w' P o := (hm.block P h.lt hP).trans h

/-- what marks from k0 on lie in a disk -/
def Marked (w : World) (vl vs vo : Value) (nl ns no k0 : Nat) : Prop := AtFile w vl nl (markFile k0) ∧ AtFile w vs ns (markFile (k0 + 2 * nl)) ∧ AtOp w vo no (markOp (k0 + 2 * nl + 2 * ns))
theorem Marked.below {w w' : World} {vl vs vo : Value} {nl ns no k0 : Nat} (h : Marked w vl vs vo nl ns no k0) (hb : Below w.heap.size w w') : Marked w' vl vs vo nl ns no k0 := ⟨h.1.below hb, h.2.1.below hb, h.2.2.below hb⟩
theorem own_none {v : Value} : v.ownBlock = none ∨ v.ownBlock ≠ none := by cases v.ownBlock <;> simp

set_option maxRecDepth 100000 in
set_option maxHeartbeats 2000000 in
theorem markDisk_any (vl vs vo : Value) (nl ns no k0 lo hi : Nat) (w : World) (h : RowD w lo hi vl vs vo nl ns no) (h0 : 1 ≤ k0) (h1 : k0 ≤ 1000) (n1 : nl ≤ 4194304) (n2 : ns ≤ 4194304) (n3 : no ≤ 4194304) :
    Calls Try.prog 14 #[.agg #[vl, vs, vo], .int .i64 k0] w fun e w' => e = .returned (.int .i64 (k0 + 2 * nl + 2 * ns + 4 * no : Nat)) ∧ RowD w' lo hi vl vs vo nl ns no ∧ Marked w' vl vs vo nl ns no k0 ∧ Mk lo hi w w' := by
  have b0 : Below w.heap.size w (w.alloc (.cells #[vl, vs, vo] 33)) := (Below.refl _ w).alloc (Nat.le_refl _) _
  have A0 := Blk.new w (.cells #[vl, vs, vo] 33)
  have R0 := h.below b0
  have HAP := hid h.ap
  have LO := hid h.inl
  have LS := hid h.ins
  have LQ := hid h.ino
  have AO := hid (rows_apart h.l h.o)
  have AS := hid (rows_apart h.s h.o)
  have bne : ∀ v : Value, (∀ b, v.ownBlock = some b → b < w.heap.size) → some w.heap.size ≠ v.ownBlock := fun v hv e => absurd (hv _ e.symm) (Nat.lt_irrefl _)
  have ltl : ∀ b, vl.ownBlock = some b → b < w.heap.size := fun b hb => by obtain ⟨c, hc⟩ := h.l.block hb; exact (Array.getElem?_eq_some_iff.1 hc).1
  have lts : ∀ b, vs.ownBlock = some b → b < w.heap.size := fun b hb => by obtain ⟨c, hc⟩ := h.s.block hb; exact (Array.getElem?_eq_some_iff.1 hc).1
  have lto : ∀ b, vo.ownBlock = some b → b < w.heap.size := fun b hb => by obtain ⟨c, hc⟩ := h.o.block hb; exact (Array.getElem?_eq_some_iff.1 hc).1
  have XL := hid (bne vl ltl)
  have XS := hid (bne vs lts)
  have XO := hid (bne vo lto)
  have M0 := hid (Mk.of_below (lo := lo) (hi := hi) b0)
  obtain ⟨Rl, Rs, Ro, _, _, _, _⟩ := R0
  have C1 := hid (markFile_any vl nl k0 _ Rl h0 (by omega) n1)
  have HRs := hid Rs
  have HRo := hid Ro
  obtain ⟨x0, x1, x2⟩ := A0.three
  have HA0 := hid A0
  clear h Rl Rs Ro bne ltl lts lto A0 b0
  go_enter Try.func14, Try.ntmps14
  go_wp2_with fail
  refine C1.out.mono ?_
  rintro e w1 ⟨rfl, r1, a1, g1⟩
  have A1 : Blk w1 w.heap.size (.cells #[vl, vs, vo] 33) := (g1.block _ HA0.out.lt XL.out).trans HA0.out
  have HR1 := hid r1
  have HA1 := hid a1
  have M1 := hid (M0.out.trans (Mk.of_grown g1 LO.out))
  have HRs1 := hid (HRs.out.kept g1 (apart_symm HAP.out))
  have HRo1 := hid (HRo.out.kept g1 (apart_symm AO.out))
  clear x0 x1 x2 C1 r1 a1 g1 HRs HRo M0
  obtain ⟨x0, x1, x2⟩ := A1.three
  have C2 := hid (markFile_any vs ns (k0 + 2 * nl) w1 HRs1.out (by omega) (by omega) n2)
  go_wp2_with fail
  refine C2.out.mono ?_
  rintro e w2 ⟨rfl, r2, a2, g2⟩
  have A2 : Blk w2 w.heap.size (.cells #[vl, vs, vo] 33) := (g2.block _ A1.lt XS.out).trans A1
  have HR2 := hid (HR1.out.kept g2 HAP.out)
  have HA2 := hid (HA1.out.kept g2 HAP.out)
  have HS2 := hid r2
  have HB2 := hid a2
  have M2 := hid (M1.out.trans (Mk.of_grown g2 LS.out))
  have HRo2 := hid (HRo1.out.kept g2 (apart_symm AS.out))
  clear x0 x1 x2 C2 r2 a2 g2 HRs1 HRo1 M1 HR1 HA1 A1
  obtain ⟨x0, x1, x2⟩ := A2.three
  have C3 := hid (markOp_any vo no (k0 + 2 * nl + 2 * ns) w2 HRo2.out (by omega) (by omega) n3)
  go_wp2_with fail
  refine C3.out.mono ?_
  rintro e w3 ⟨rfl, r3, a3, g3⟩
  have HR3 := hid (HR2.out.kept g3 AO.out)
  have HA3 := hid (HA2.out.kept g3 AO.out)
  have HS3 := hid (HS2.out.kept g3 AS.out)
  have HB3 := hid (HB2.out.kept g3 AS.out)
  have HO3 := hid r3
  have HC3 := hid a3
  have M3 := hid (M2.out.trans (Mk.of_grown g3 LQ.out))
  clear x0 x1 x2 C3 r3 a3 g3 HRo2 M2 HR2 HA2 HS2 HB2 A2
  go_wp2
  go_ret
  exact ⟨rfl, ⟨HR3.out, HS3.out, HO3.out, HAP.out, LO.out, LS.out, LQ.out⟩, ⟨HA3.out, HB3.out, HC3.out⟩, M3.out⟩

set_option maxRecDepth 100000 in
set_option maxHeartbeats 2000000 in
theorem heldDisk_any (vl vs vo : Value) (nl ns no k0 : Nat) (w : World) (h : Marked w vl vs vo nl ns no k0) (h0 : 1 ≤ k0) (h1 : k0 ≤ 1000) (n1 : nl ≤ 4194304) (n2 : ns ≤ 4194304) (n3 : no ≤ 4194304) :
    Calls Try.prog 15 #[.agg #[vl, vs, vo], .int .i64 k0] w fun e w' => e = .returned (.int .i64 (k0 + 2 * nl + 2 * ns + 4 * no : Nat)) ∧ Below w.heap.size w w' := by
  have b0 : Below w.heap.size w (w.alloc (.cells #[vl, vs, vo] 33)) := (Below.refl _ w).alloc (Nat.le_refl _) _
  have A0 := Blk.new w (.cells #[vl, vs, vo] 33)
  have HH := hid h
  have C1 := hid (heldFile_any vl nl k0 _ (h.1.below b0) h0 (by omega) n1)
  obtain ⟨x0, x1, x2⟩ := A0.three
  clear h
  go_enter Try.func15, Try.ntmps15
  go_wp2_with fail
  refine C1.out.mono ?_
  rintro e w1 ⟨rfl, hb1⟩
  have A1 := A0.below hb1
  have B1 := then_ b0 hb1
  clear x0 x1 x2 C1 A0 b0 hb1
  obtain ⟨x0, x1, x2⟩ := A1.three
  have C2 := hid (heldFile_any vs ns (k0 + 2 * nl) w1 (HH.out.2.1.below B1) (by omega) (by omega) n2)
  have n0 : ¬ ((k0 + 2 * nl : Nat) : Int) < 0 := by omega
  go_wp2_with fail
  refine C2.out.mono ?_
  rintro e w2 ⟨rfl, hb2⟩
  have A2 := A1.below hb2
  have B2 := then_ B1 hb2
  clear x0 x1 x2 C2 A1 hb2 n0
  obtain ⟨x0, x1, x2⟩ := A2.three
  have C3 := hid (heldOp_any vo no (k0 + 2 * nl + 2 * ns) w2 (HH.out.2.2.below B2) (by omega) (by omega) n3)
  have n0 : ¬ ((k0 + 2 * nl + 2 * ns : Nat) : Int) < 0 := by omega
  go_wp2_with fail
  refine C3.out.mono ?_
  rintro e w3 ⟨rfl, hb3⟩
  have B3 := then_ B2 hb3
  clear x0 x1 x2 C3 hb3 n0
  have n0 : ¬ ((k0 + 2 * nl + 2 * ns + 4 * no : Nat) : Int) < 0 := by omega
  go_wp2
  go_ret
  exact ⟨rfl, B3⟩

set_option maxRecDepth 100000 in
set_option maxHeartbeats 4000000 in
theorem eqDisk_any (vl vs vo ul us uo : Value) (nl ns no : Nat) (fl fs : Nat → FileV) (fo : Nat → OpV) (w : World) (h : DAt w vl vs vo nl ns no fl fs fo) (h' : DAt w ul us uo nl ns no fl fs fo) (n1 : nl ≤ 4194304) (n2 : ns ≤ 4194304) (n3 : no ≤ 4194304) :
    Calls Try.prog 13 #[.agg #[vl, vs, vo], .agg #[ul, us, uo]] w fun e w' => e = .returned (.bool true) ∧ Below w.heap.size w w' := by
  obtain ⟨⟨al, cl, rfl, h1⟩, ⟨aq, cs, rfl, h2⟩, ⟨ao, co, rfl, h3⟩⟩ := h
  obtain ⟨⟨bl, kl, rfl, j1⟩, ⟨bs, ks, rfl, j2⟩, ⟨bo, ko, rfl, j3⟩⟩ := h'
  have b0 : Below w.heap.size w ((w.alloc (.cells #[.slice al nl cl, .slice aq ns cs, .slice ao no co] 33)).alloc (.cells #[.slice bl nl kl, .slice bs ns ks, .slice bo no ko] 33)) := ((Below.refl _ w).alloc (Nat.le_refl _) _).alloc (by simp) _
  have A0 := (Blk.new w (.cells #[.slice al nl cl, .slice aq ns cs, .slice ao no co] 33)).alloc (.cells #[.slice bl nl kl, .slice bs ns ks, .slice bo no ko] 33)
  have L0 := Blk.new (w.alloc (.cells #[.slice al nl cl, .slice aq ns cs, .slice ao no co] 33)) (.cells #[.slice bl nl kl, .slice bs ns ks, .slice bo no ko] 33)
  simp only [World.size_alloc] at L0
  have C1 : Hid (∀ W, Below w.heap.size w W → Calls Try.prog 33 #[.slice al nl cl, .slice bl nl kl] W fun e w' => e = .returned (.bool true) ∧ Below W.heap.size W w') := hid (fun W hW => eqFileS_true _ _ _ _ _ fl W (by unfold maxLen; omega) (h1.below hW) (j1.below hW))
  have C2 : Hid (∀ W, Below w.heap.size w W → Calls Try.prog 33 #[.slice aq ns cs, .slice bs ns ks] W fun e w' => e = .returned (.bool true) ∧ Below W.heap.size W w') := hid (fun W hW => eqFileS_true _ _ _ _ _ fs W (by unfold maxLen; omega) (h2.below hW) (j2.below hW))
  have C3 : Hid (∀ W, Below w.heap.size w W → Calls Try.prog 34 #[.slice ao no co, .slice bo no ko] W fun e w' => e = .returned (.bool true) ∧ Below W.heap.size W w') := hid (fun W hW => eqDOpS_true _ _ _ _ _ fo W (by unfold maxLen; omega) (h3.below hW) (j3.below hW))
  clear h1 h2 h3 j1 j2 j3
  obtain ⟨x0, x1, x2⟩ := A0.three
  obtain ⟨y0, y1, y2⟩ := L0.three
  go_enter Try.func13, Try.ntmps13
  go_wp2_with fail
  refine (C1.out _ b0).mono ?_
  rintro e w1 ⟨rfl, hb⟩
  have A1 := A0.below hb
  have L1 := L0.below hb
  have b1 := then_ b0 hb
  clear x0 x1 x2 y0 y1 y2 A0 L0 b0 hb C1
  obtain ⟨x0, x1, x2⟩ := A1.three
  obtain ⟨y0, y1, y2⟩ := L1.three
  go_wp2_with fail
  refine (C2.out _ b1).mono ?_
  rintro e w2 ⟨rfl, hb⟩
  have A2 := A1.below hb
  have L2 := L1.below hb
  have b2 := then_ b1 hb
  clear x0 x1 x2 y0 y1 y2 A1 L1 b1 hb C2
  obtain ⟨x0, x1, x2⟩ := A2.three
  obtain ⟨y0, y1, y2⟩ := L2.three
  go_wp2_with fail
  refine (C3.out _ b2).mono ?_
  rintro e w3 ⟨rfl, hb⟩
  have A3 := A2.below hb
  have L3 := L2.below hb
  have b3 := then_ b2 hb
  clear x0 x1 x2 y0 y1 y2 A2 L2 b2 hb C3
  obtain ⟨x0, x1, x2⟩ := A3.three
  obtain ⟨y0, y1, y2⟩ := L3.three
  go_wp2
  go_ret
  exact ⟨rfl, b3⟩
end Go.Proofs.Ytcdhhmedcplblaa
