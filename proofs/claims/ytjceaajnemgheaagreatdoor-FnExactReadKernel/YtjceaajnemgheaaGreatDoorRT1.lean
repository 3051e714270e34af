/- The reader of the program: takes, upTo, line, text, number, label. -/
import Derived.Test.YtjceaajnemgheaaGreatDoorZ30
import Derived.Test.YtjceaajnemgheaaGreatDoorLH
import Derived.Defers
import Derived.Recover
namespace Go.Proofs.YtjceaajnemgheaaGreatDoor
open Go Go.RowKit Go.Deep Go.Maps
def Err (u : TypeId) (pv : Value) (w : World) : Prop := w.cell? ⟨0, 0, none⟩ = some (.iface u pv) ∧ 0 < w.heap.size
theorem Err.below {u : TypeId} {pv : Value} {w w' : World} (h : Err u pv w) (hb : Below w.heap.size w w') : Err u pv w' := ⟨(hb.cell (p := ⟨0, 0, none⟩) h.2).trans h.1, Nat.lt_of_lt_of_le h.2 hb.size⟩
theorem Err.grown {u : TypeId} {pv : Value} {w w' : World} {rb : Nat} (h : Err u pv w) (hg : w.grownBy w' (some rb)) (h0 : rb ≠ 0) : Err u pv w' := ⟨by
  rw [← h.1]
  unfold World.cell?
  rw [hg.block 0 h.2 (fun e => h0 (Option.some.inj e).symm)], Nat.lt_of_lt_of_le h.2 hg.size⟩
def gaveUp (u : TypeId) (pv : Value) : Ending := .panicked [{ v := .iface u pv, recovered := false }]
theorem must_yes (w : World) : Calls Tryz.prog 33 #[.bool true] w fun e w' => e = .returned (.tuple #[]) ∧ w' = w := by
  go_enter Tryz.func33, Tryz.ntmps33
  go_wp2
  simp [bodyPost, results, Tryz.results33]
set_option maxRecDepth 100000 in
theorem must_no (u : TypeId) (pv : Value) (w : World) (h : Err u pv w) : Calls Tryz.prog 33 #[.bool false] w fun e w' => e = gaveUp u pv ∧ w' = w := by
  have c := h.1
  go_enter Tryz.func33, Tryz.ntmps33
  go_wp2
  simp [bodyPost, gaveUp]
theorem Blk.one {W : World} {P t : Nat} {x : Value} (h : Blk W P (.cells #[x] t)) : W.cell? ⟨P, 0, none⟩ = some x := by
  unfold Blk at h
  simp [World.cell?, h]
theorem belowOnly {a b : World} (h : Below a.heap.size a b) (row : Option Nat) : a.grownBy b row := ⟨h.os, h.tape, h.output, h.size, fun j hj _ => h.block j hj⟩
theorem grown_new {a b : World} {row : Option Nat} {Q : Nat} (h : a.grownBy b row) (hQ : a.heap.size ≤ Q) (i : Nat) (v : Value) : a.grownBy (b.setCell ⟨Q, i, none⟩ v) row :=
  ⟨h.os, h.tape, h.output, by simpa [World.setCell] using h.size, fun j hj hne => (Below.heap_setCell _ _ _ _ (by show j ≠ Q; omega)).trans (h.block j hj hne)⟩
theorem grown_same {a b c : World} {P : Nat} (h : a.grownBy b (some P)) (k : b.grownBy c (some P)) : a.grownBy c (some P) :=
  ⟨k.os.trans h.os, k.tape.trans h.tape, k.output.trans h.output, Nat.le_trans h.size k.size, fun j hj hne => (k.block j (Nat.lt_of_lt_of_le hj h.size) hne).trans (h.block j hj hne)⟩
def Rdr (W : World) (rb : Nat) (R : List UInt8) : Prop := Blk W rb (.cells #[.string (bytesOf R)] 64)
theorem Rdr.below {W W' : World} {rb : Nat} {R : List UInt8} (h : Rdr W rb R) (hb : Below W.heap.size W W') : Rdr W' rb R := Blk.below h hb
theorem Rdr.grown {W W' : World} {rb P : Nat} {R : List UInt8} (h : Rdr W rb R) (hg : W.grownBy W' (some P)) (hne : rb ≠ P) : Rdr W' rb R := Blk.grown h hg (fun e => hne (Option.some.inj e))
def UpP (u : TypeId) (pv : Value) (rb : Nat) (W : World) (f : Bool) (p q : List UInt8) (e : Ending) (W' : World) : Prop := (f = true ∧ e = .returned (.string (bytesOf p)) ∧ Rdr W' rb q ∧ W.grownBy W' (some rb)) ∨ (f = false ∧ e = gaveUp u pv ∧ W.grownBy W' (some rb))
def NumA (u : TypeId) (pv : Value) (rb : Nat) (W : World) (f : Bool) (p q : List UInt8) (e : Ending) (W' : World) : Prop := (f = true ∧ okD p = true ∧ e = .returned (.int .i64 (numL p)) ∧ Rdr W' rb q ∧ W.grownBy W' (some rb)) ∨ ((f && okD p) = false ∧ e = gaveUp u pv ∧ W.grownBy W' (some rb))
def LabA (u : TypeId) (pv : Value) (rb : Nat) (W : World) (f : Bool) (r : Int × List (Int × Int) × Bool) (q : List UInt8) (e : Ending) (W' : World) : Prop := (f = true ∧ r.2.2 = true ∧ ∃ a kk, e = .returned (.agg #[.int .i64 r.1, .slice a r.2.1.length kk]) ∧ OwnList W' W.heap.size (.slice a r.2.1.length kk) r.2.1 ∧ Rdr W' rb q ∧ W.grownBy W' (some rb)) ∨ ((f && r.2.2) = false ∧ e = gaveUp u pv ∧ W.grownBy W' (some rb))
def LineA (u : TypeId) (pv : Value) (rb : Nat) (W : World) (f : Bool) (p q : List UInt8) (e : Ending) (W' : World) : Prop := (f = true ∧ ∃ lb, e = .returned (.pointer (some ⟨lb, 0, none⟩)) ∧ W.heap.size ≤ lb ∧ Rdr W' lb (p ++ [32]) ∧ Rdr W' rb q ∧ W.grownBy W' (some rb)) ∨ (f = false ∧ e = gaveUp u pv ∧ W.grownBy W' (some rb))
theorem cutB (R : List UInt8) (c : UInt8) (W : World) (hR : R.length ≤ 1048576) : Calls Tryz.prog 66 #[.string (bytesOf R), .string ⟨#[c]⟩] W fun e w' => e = .returned (.tuple #[.string (bytesOf (cutL c R).1), .string (bytesOf (cutL c R).2.1), .bool (cutL c R).2.2]) ∧ Below W.heap.size W w' := by
  have := cut_any (bytesOf R) c W (by rw [bytesOf_size]; unfold maxLen; omega)
  rw [bytesOf_list] at this
  exact this

set_option maxRecDepth 100000 in
set_option maxHeartbeats 1000000 in
theorem upTo_any (u : TypeId) (pv : Value) (rb : Nat) (R : List UInt8) (c : UInt8) (W : World) (hL : R.length ≤ 1048576) (hR : Rdr W rb R) (hE : Err u pv W) :
    Calls Tryz.prog 51 #[.pointer (some ⟨rb, 0, none⟩), .string ⟨#[c]⟩] W fun e W' => UpP u pv rb W (cutL c R).2.2 (cutL c R).1 (cutL c R).2.1 e W' := by
  have CT := hid (cutB R c W hL)
  have c1 := Blk.one hR
  have HB := hid hR
  have HE := hid hE
  clear hR hE
  generalize (cutL c R).1 = p at *
  generalize (cutL c R).2.1 = q at *
  generalize (cutL c R).2.2 = f at *
  go_enter Tryz.func51, Tryz.ntmps51
  go_wp2_with fail
  refine CT.out.mono ?_
  rintro e w1 ⟨rfl, hb1⟩
  have B1 := hid (HB.out.below hb1)
  have z1 := Blk.one B1.out
  have f1 := Blk.warm B1.out 0
  have E1 := hid (HE.out.below hb1)
  clear c1 CT HB HE
  cases f with
  | true =>
    go_wp2_with (go_at_call 33; refine (must_yes _).mono ?_; rintro e w2 ⟨rfl, rfl⟩)
    go_ret
    exact Or.inl ⟨rfl, rfl, Blk.setAt (i := 0) B1.out _, grown_set (belowOnly hb1 _) _ _⟩
  | false =>
    go_wp2_with (go_at_call 33; refine (must_no u pv _ E1.out).mono ?_; rintro e w2 ⟨rfl, rfl⟩; unfold gaveUp)
    exact ⟨rfl, Or.inr ⟨rfl, rfl, belowOnly hb1 _⟩⟩
set_option maxRecDepth 100000 in
set_option maxHeartbeats 1000000 in
theorem number_any (u : TypeId) (pv : Value) (rb : Nat) (R : List UInt8) (W : World) (hL : R.length ≤ 1048576) (hR : Rdr W rb R) (hE : Err u pv W) (h0 : rb ≠ 0) :
    Calls Tryz.prog 52 #[.pointer (some ⟨rb, 0, none⟩)] W fun e W' => NumA u pv rb W (cutL 32 R).2.2 (cutL 32 R).1 (cutL 32 R).2.1 e W' := by
  have U := hid (upTo_any u pv rb R 32 W hL hR hE)
  have HE := hid hE
  have pl := cutL_len1 32 R
  clear hR hE
  generalize (cutL 32 R).1 = p at *
  generalize (cutL 32 R).2.1 = q at *
  generalize (cutL 32 R).2.2 = f at *
  go_enter Tryz.func52, Tryz.ntmps52
  go_wp2_with fail
  refine U.out.mono ?_
  rintro e w1 (⟨hf, rfl, R1, G1⟩ | ⟨hf, rfl, G1⟩)
  · have RR := hid R1
    have GG := hid G1
    have CD := hid (readDecimal_any (bytesOf p) w1 (by rw [bytesOf_size]; unfold maxLen; omega))
    rw [bytesOf_list] at CD
    unfold numV at CD
    clear U R1 G1
    go_wp2_with fail
    refine CD.out.mono ?_
    rintro e w2 ⟨rfl, hb2⟩
    have E2 := hid ((HE.out.grown GG.out h0).below hb2)
    have HF := hid hf
    clear hf CD
    cases ho : okD p with
    | true =>
      go_wp2_with (go_at_call 33; refine (must_yes _).mono ?_; rintro e w3 ⟨rfl, rfl⟩)
      go_ret
      exact Or.inl ⟨HF.out, ho, rfl, RR.out.below hb2, grown_same GG.out (belowOnly hb2 _)⟩
    | false =>
      go_wp2_with (go_at_call 33; refine (must_no u pv _ E2.out).mono ?_; rintro e w3 ⟨rfl, rfl⟩; unfold gaveUp)
      exact ⟨rfl, Or.inr ⟨by rw [ho, Bool.and_false], rfl, grown_same GG.out (belowOnly hb2 _)⟩⟩
  · unfold gaveUp
    go_wp2
    exact ⟨rfl, Or.inr ⟨by rw [hf]; rfl, rfl, G1⟩⟩
theorem results51 (tmps : Array Value) (W : World) (P : Nat) (x y : Value) (h : Blk W P (.cells #[x, y] 39)) (h2 : tmps[2]? = some (.pointer (some ⟨P, 0, none⟩))) :
    (results Tryz.f53 tmps).run Tryz.prog W = .ok (.agg #[x, y]) W := by
  obtain ⟨z0, z1⟩ := h.two
  simp [results, Tryz.results53, go_sem, h2, z0, z1]
set_option maxRecDepth 100000 in
set_option maxHeartbeats 2000000 in
theorem label_any (u : TypeId) (pv : Value) (rb : Nat) (R : List UInt8) (W : World) (hL : R.length ≤ 1048576) (hR : Rdr W rb R) (hE : Err u pv W) (h0 : rb ≠ 0) :
    Calls Tryz.prog 53 #[.pointer (some ⟨rb, 0, none⟩)] W fun e W' => LabA u pv rb W (cutL 32 R).2.2 (readL (cutL 32 R).1) (cutL 32 R).2.1 e W' := by
  have lr := Blk.lt hR
  have bz := (Below.refl _ W).alloc (Nat.le_refl _) (.cells #[.int .i64 0, .slice none 0 0] 39)
  have Z0 := hid (Blk.new W (.cells #[.int .i64 0, .slice none 0 0] 39))
  have G0 := hid (belowOnly bz (some rb))
  have U := hid (upTo_any u pv rb R 32 _ hL (hR.below bz) (hE.below bz))
  have HE := hid (hE.below bz)
  have pl := cutL_len1 32 R
  have ne : W.heap.size ≠ rb := by omega
  clear hR hE bz
  generalize (cutL 32 R).1 = p at *
  generalize (cutL 32 R).2.1 = q at *
  generalize (cutL 32 R).2.2 = f at *
  have CR : Hid (∀ w, Calls Tryz.prog 68 #[.string (bytesOf p)] w (RPost (readL p) w)) := hid (fun w => by
    have := implRead_any (bytesOf p) w (by rw [bytesOf_size]; omega)
    rw [bytesOf_list] at this
    exact this)
  generalize readL p = r at *
  obtain ⟨rb1, rl1, rk1⟩ := r
  go_enter Tryz.func53, Tryz.ntmps53
  go_wp2_with fail
  refine U.out.mono ?_
  rintro e w1 (⟨hf, rfl, R1, G1⟩ | ⟨hf, rfl, G1⟩)
  · have Z1 := hid (Z0.out.grown G1 (fun e => ne (Option.some.inj e)))
    have GA := hid (grown_same G0.out G1)
    have RR := hid R1
    have E1 := hid (HE.out.grown G1 h0)
    have lt1 : W.heap.size < w1.heap.size := Z1.out.lt
    have HF := hid hf
    clear hf
    clear U R1 G1 Z0 G0 HE
    go_wp2_with fail
    refine (CR.out w1).mono ?_
    rintro e w2 ⟨a, kk, rfl, O2, hb2⟩
    have Z2 := hid ((Z1.out.below hb2).alloc (.cells #[.int .i64 rb1, .slice a rl1.length kk] 39))
    have Y2 := hid (Blk.new w2 (.cells #[.int .i64 rb1, .slice a rl1.length kk] 39))
    have b2 := hb2.alloc hb2.size (.cells #[.int .i64 rb1, .slice a rl1.length kk] 39)
    have G2 := hid (grown_same GA.out (belowOnly b2 (some rb)))
    have R2 := hid (RR.out.below b2)
    have E2 := hid (E1.out.below b2)
    have N2 := hid (OwnCats.alloc O2 (.cells #[.int .i64 rb1, .slice a rl1.length kk] 39))
    clear Z1 GA RR O2 hb2 b2 CR E1
    obtain ⟨y0, y1⟩ := Y2.out.two
    obtain ⟨z0, z1⟩ := Z2.out.two
    have f0 := Z2.out.warm 0
    have f1 := Z2.out.warm 1
    cases rk1 with
    | true =>
      go_wp2_with (go_at_call 33; refine (must_yes _).mono ?_; rintro e w3 ⟨rfl, rfl⟩)
      refine bodyPost_ret (results51 _ _ W.heap.size (.int .i64 rb1) (.slice a rl1.length kk) ((Z2.out.setAt _).setAt _) rfl) rfl (Or.inl ⟨HF.out, rfl, a, kk, rfl, OwnList.low (OwnList.set (OwnList.set N2.out lt1 _ _) lt1 _ _) (Nat.le_of_lt lt1), Blk.other (Blk.other R2.out ne _) ne _, grown_new (grown_new G2.out (Nat.le_refl _) _ _) (Nat.le_refl _) _ _⟩)
    | false =>
      go_wp2_with (go_at_call 33; refine (must_no u pv _ E2.out).mono ?_; rintro e w3 ⟨rfl, rfl⟩; unfold gaveUp)
      exact ⟨rfl, Or.inr ⟨Bool.and_false _, rfl, G2.out⟩⟩
  · unfold gaveUp
    go_wp2
    exact ⟨rfl, Or.inr ⟨by rw [hf]; rfl, rfl, grown_same G0.out G1⟩⟩
set_option maxRecDepth 100000 in
set_option maxHeartbeats 2000000 in
theorem line_any (u : TypeId) (pv : Value) (rb : Nat) (R : List UInt8) (W : World) (hL : R.length ≤ 1048575) (hR : Rdr W rb R) (hE : Err u pv W) :
    Calls Tryz.prog 30 #[.pointer (some ⟨rb, 0, none⟩)] W fun e W' => LineA u pv rb W (cutL 10 R).2.2 (cutL 10 R).1 (cutL 10 R).2.1 e W' := by
  have U := hid (upTo_any u pv rb R 10 W (by omega) hR hE)
  have pl := cutL_len1 10 R
  clear hR hE
  generalize (cutL 10 R).1 = p at *
  generalize (cutL 10 R).2.1 = q at *
  generalize (cutL 10 R).2.2 = f at *
  have sp : (bytesOf p).size = p.length := bytesOf_size p
  have r1 : ¬ 9223372036854775807 < (bytesOf p).size + (ByteArray.mk #[32]).size := by rw [sp]; show ¬ 9223372036854775807 < p.length + 1; omega
  have ep : Hid (bytesOf p ++ ByteArray.mk #[32] = bytesOf (p ++ [32])) := hid (by
    apply ByteArray.ext
    apply Array.ext'
    simp [bytesOf])
  clear sp
  go_enter Tryz.func30, Tryz.ntmps30
  go_wp2_with fail
  refine U.out.mono ?_
  rintro e w1 (⟨hf, rfl, R1, G1⟩ | ⟨hf, rfl, G1⟩)
  · have b1 := (Below.refl _ w1).alloc (Nat.le_refl _) (.cells #[.string (bytesOf (p ++ [32]))] 64)
    have N1 := hid (Blk.new w1 (.cells #[.string (bytesOf (p ++ [32]))] 64))
    have R2 := hid (R1.below b1)
    have G2 := hid (grown_same G1 (belowOnly b1 (some rb)))
    have sz := G1.size
    have HF := hid hf
    clear U R1 G1 b1 hf
    go_wp2
    rw [ep.out]
    go_ret
    exact Or.inl ⟨HF.out, _, rfl, sz, N1.out, R2.out, G2.out⟩
  · unfold gaveUp
    go_wp2
    exact ⟨rfl, Or.inr ⟨hf, rfl, G1⟩⟩
end Go.Proofs.YtjceaajnemgheaaGreatDoor
