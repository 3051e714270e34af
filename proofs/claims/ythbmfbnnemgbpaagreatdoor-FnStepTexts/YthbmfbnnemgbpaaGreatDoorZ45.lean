/- The reader of the program: must, upTo, number, label. -/
import Derived.Test.YthbmfbnnemgbpaaGreatDoorZ44
import Derived.Defers
import Derived.Recover
import Derived.Test.YthbmfbnnemgbpaaGreatDoorZ9
namespace Go.Proofs.YthbmfbnnemgbpaaGreatDoor
open Go Go.RowKit Go.Deep Go.Maps
def Err (u : TypeId) (pv : Value) (w : World) : Prop := w.cell? ⟨0, 0, none⟩ = some (.iface u pv) ∧ 0 < w.heap.size
theorem Err.below {u : TypeId} {pv : Value} {w w' : World} (h : Err u pv w) (hb : Below w.heap.size w w') : Err u pv w' := ⟨(hb.cell (p := ⟨0, 0, none⟩) h.2).trans h.1, Nat.lt_of_lt_of_le h.2 hb.size⟩
def gaveUp (u : TypeId) (pv : Value) : Ending := .panicked [{ v := .iface u pv, recovered := false }]
theorem must_yes (w : World) : Calls Tryz.prog 52 #[.bool true] w fun e w' => e = .returned (.tuple #[]) ∧ w' = w := by
 go_enter Tryz.func52, Tryz.ntmps52
 go_wp2
 simp [bodyPost, results, Tryz.results52]
set_option maxRecDepth 100000 in
theorem must_no (u : TypeId) (pv : Value) (w : World) (h : Err u pv w) : Calls Tryz.prog 52 #[.bool false] w fun e w' => e = gaveUp u pv ∧ w' = w := by
 have c := h.1
 go_enter Tryz.func52, Tryz.ntmps52
 go_wp2
 simp [bodyPost, gaveUp]
def cutVal (k : Nat) (L : List UInt8) : Value := .tuple #[.string ⟨(pce k L).toArray⟩, .string ⟨(rst (k + 1) L).toArray⟩, .bool (fnd k L)]
def Reader (w : World) (rb k : Nat) (L : List UInt8) (W : World) : Prop := w.heap.size ≤ rb ∧ Blk W rb (.cells #[.string ⟨(rst k L).toArray⟩] 98) ∧ Below w.heap.size w W
theorem Blk.one {W : World} {P t : Nat} {x : Value} (h : Blk W P (.cells #[x] t)) : W.cell? ⟨P, 0, none⟩ = some x := by
 unfold Blk at h
 simp [World.cell?, h]
theorem belowOnly {a b : World} (h : Below a.heap.size a b) (row : Option Nat) : a.grownBy b row := ⟨h.os, h.tape, h.output, h.size, fun j hj _ => h.block j hj⟩
theorem grown_new {a b : World} {row : Option Nat} {Q : Nat} (h : a.grownBy b row) (hQ : a.heap.size ≤ Q) (i : Nat) (v : Value) : a.grownBy (b.setCell ⟨Q, i, none⟩ v) row :=
 ⟨h.os, h.tape, h.output, by simpa [World.setCell] using h.size, fun j hj hne => (Below.heap_setCell _ _ _ _ (by show j ≠ Q; omega)).trans (h.block j hj hne)⟩
theorem grown_same {a b c : World} {P : Nat} (h : a.grownBy b (some P)) (k : b.grownBy c (some P)) : a.grownBy c (some P) :=
 ⟨k.os.trans h.os, k.tape.trans h.tape, k.output.trans h.output, Nat.le_trans h.size k.size, fun j hj hne => (k.block j (Nat.lt_of_lt_of_le hj h.size) hne).trans (h.block j hj hne)⟩
theorem OwnList.past {w w' : World} {B P : Nat} {v : Value} {l : List (Int × Int)} (h : OwnList w B v l) (hg : w.grownBy w' (some P)) (hP : P < B) : OwnList w' B v l := by
 refine ⟨h.1, ?_⟩
 rcases h.2 with hn | ⟨g, cap, cur, hv, hbg, hgg, rest⟩
 ·exact .inl hn
 ·exact .inr ⟨g, cap, cur, hv, hbg, (hg.block g (Array.getElem?_eq_some_iff.1 hgg).1 (fun e => by have := Option.some.inj e; omega)).trans hgg, rest⟩
theorem Reader.up {w W W' : World} {rb k : Nat} {L : List UInt8} (h : Reader w rb k L W) (hb : Below W.heap.size W W') : Reader w rb k L W' := ⟨h.1, h.2.1.below hb, then_ h.2.2 hb⟩
theorem cut70 (k : Nat) (L : List UInt8) (hL : L.length ≤ 1048576) (W : World) : Calls Tryz.prog 84 #[.string ⟨(rst k L).toArray⟩, .string ⟨#[32]⟩] W fun e w' => e = .returned (cutVal k L) ∧ Below W.heap.size W w' := cut_any ⟨(rst k L).toArray⟩ 32 W (by rw [size_of]; unfold maxLen; have := rst_len k L; omega)
set_option maxRecDepth 100000 in
set_option maxHeartbeats 1000000 in
theorem upTo_yes (w : World) (rb k : Nat) (L : List UInt8) (W : World) (hL : L.length ≤ 1048576) (hR : Reader w rb k L W) (hf : fnd k L = true) :
 Calls Tryz.prog 69 #[.pointer (some ⟨rb, 0, none⟩), .string ⟨#[32]⟩] W fun e W' => e = .returned (.string ⟨(pce k L).toArray⟩) ∧ Reader w rb (k + 1) L W' ∧ W.grownBy W' (some rb) := by
 obtain ⟨h0, hB, hW⟩ := hR
 have CT := hid (cut70 k L hL W)
 have c1 := hB.one
 have HB := hid hB
 clear hB
 go_enter Tryz.func69, Tryz.ntmps69
 go_wp2_with fail
 refine CT.out.mono ?_
 rintro e w1 ⟨rfl, hb1⟩
 have B1 := hid (HB.out.below hb1)
 have L1 := then_ hW hb1
 have z1 := B1.out.one
 have f1 := B1.out.warm 0
 unfold cutVal
 rw [hf]
 clear c1 CT HB
 go_wp2_with (go_at_call 52; refine (must_yes _).mono ?_; rintro e w2 ⟨rfl, rfl⟩)
 go_ret
 exact ⟨rfl, ⟨h0, B1.out.setAt _, L1.setCell h0 _⟩, grown_set (belowOnly hb1 _) _ _⟩
set_option maxRecDepth 100000 in
set_option maxHeartbeats 1000000 in
theorem upTo_no (u : TypeId) (pv : Value) (w : World) (rb k : Nat) (L : List UInt8) (W : World) (hL : L.length ≤ 1048576) (hR : Reader w rb k L W) (hf : fnd k L = false) (hE : Err u pv w) :
 Calls Tryz.prog 69 #[.pointer (some ⟨rb, 0, none⟩), .string ⟨#[32]⟩] W fun e W' => e = gaveUp u pv ∧ Below w.heap.size w W' := by
 unfold gaveUp
 obtain ⟨h0, hB, hW⟩ := hR
 have CT := hid (cut70 k L hL W)
 have c1 := hB.one
 have HB := hid hB
 clear hB
 go_enter Tryz.func69, Tryz.ntmps69
 go_wp2_with fail
 refine CT.out.mono ?_
 rintro e w1 ⟨rfl, hb1⟩
 have L1 := then_ hW hb1
 have E1 := hid (hE.below L1)
 unfold cutVal
 rw [hf]
 clear c1 CT HB
 go_wp2_with (go_at_call 52; refine (must_no u pv _ E1.out).mono ?_; rintro e w2 ⟨rfl, rfl⟩; unfold gaveUp)
 exact ⟨rfl, rfl, L1⟩
theorem num63 (k : Nat) (L : List UInt8) (hL : L.length ≤ 1048576) (W : World) : Calls Tryz.prog 68 #[.string ⟨(pce k L).toArray⟩] W fun e w' => e = .returned (.tuple #[.int .i64 (nm k L), .bool (okD (pce k L))]) ∧ Below W.heap.size W w' := readDecimal_any ⟨(pce k L).toArray⟩ W (by rw [size_of]; unfold maxLen; have := pce_len k L; omega)
set_option maxRecDepth 100000 in
set_option maxHeartbeats 1000000 in
theorem number_yes (w : World) (rb k : Nat) (L : List UInt8) (W : World) (hL : L.length ≤ 1048576) (hR : Reader w rb k L W) (hf : numAtB k L = true) :
 Calls Tryz.prog 49 #[.pointer (some ⟨rb, 0, none⟩)] W fun e W' => e = .returned (.int .i64 (nm k L)) ∧ Reader w rb (k + 1) L W' ∧ W.grownBy W' (some rb) := by
 unfold numAtB at hf
 rw [Bool.and_eq_true] at hf
 have U := hid (upTo_yes w rb k L W hL hR hf.1)
 have hf2 := hf.2
 clear hR hf
 go_enter Tryz.func49, Tryz.ntmps49
 go_wp2_with fail
 refine U.out.mono ?_
 rintro e w1 ⟨rfl, R1, G1⟩
 go_wp2_with fail
 refine (num63 k L hL w1).mono ?_
 rintro e w2 ⟨rfl, hb2⟩
 rw [hf2]
 go_wp2_with (go_at_call 52; refine (must_yes _).mono ?_; rintro e w3 ⟨rfl, rfl⟩)
 go_ret
 exact ⟨rfl, R1.up hb2, grown_same G1 (belowOnly hb2 _)⟩
set_option maxRecDepth 100000 in
set_option maxHeartbeats 1000000 in
theorem number_no (u : TypeId) (pv : Value) (w : World) (rb k : Nat) (L : List UInt8) (W : World) (hL : L.length ≤ 1048576) (hR : Reader w rb k L W) (hf : numAtB k L = false) (hE : Err u pv w) :
 Calls Tryz.prog 49 #[.pointer (some ⟨rb, 0, none⟩)] W fun e W' => e = gaveUp u pv ∧ Below w.heap.size w W' := by
 unfold numAtB at hf
 cases hg : fnd k L with
 | false =>
  have U := hid (upTo_no u pv w rb k L W hL hR hg hE)
  clear hR hf
  unfold gaveUp at U ⊢
  go_enter Tryz.func49, Tryz.ntmps49
  go_wp2_with (go_at_call 69; refine U.out.mono ?_; rintro e w1 ⟨rfl, L1⟩)
  exact ⟨rfl, rfl, L1⟩
 | true =>
  rw [hg] at hf
  have hf2 : okD (pce k L) = false := hf
  have U := hid (upTo_yes w rb k L W hL hR hg)
  clear hR hf
  unfold gaveUp
  go_enter Tryz.func49, Tryz.ntmps49
  go_wp2_with fail
  refine U.out.mono ?_
  rintro e w1 ⟨rfl, R1, _⟩
  go_wp2_with fail
  refine (num63 k L hL w1).mono ?_
  rintro e w2 ⟨rfl, hb2⟩
  rw [hf2]
  have L2 := then_ R1.2.2 hb2
  have E2 := hid (hE.below L2)
  go_wp2_with (go_at_call 52; refine (must_no u pv _ E2.out).mono ?_; rintro e w3 ⟨rfl, rfl⟩; unfold gaveUp)
  exact ⟨rfl, rfl, L2⟩
theorem lab65 (k : Nat) (L : List UInt8) (hL : L.length ≤ 1048576) (W : World) : Calls Tryz.prog 70 #[.string ⟨(pce k L).toArray⟩] W (RPost (rl k L) W) := implRead_any ⟨(pce k L).toArray⟩ W (by rw [size_of]; have := pce_len k L; omega)
theorem results51 (tmps : Array Value) (W : World) (P : Nat) (x y : Value) (h : Blk W P (.cells #[x, y] 26)) (h2 : tmps[2]? = some (.pointer (some ⟨P, 0, none⟩))) :
 (results Tryz.f50 tmps).run Tryz.prog W = .ok (.agg #[x, y]) W := by
 obtain ⟨z0, z1⟩ := h.two
 simp [results, Tryz.results50, go_sem, h2, z0, z1]
theorem Reader.mk' {w W : World} {rb k : Nat} {L : List UInt8} (h : Reader w rb k L W) (o : Obj) : Reader w rb k L (W.alloc o) := h.up ((Below.refl _ W).alloc (Nat.le_refl _) o)
set_option maxRecDepth 100000 in
set_option maxHeartbeats 2000000 in
theorem label_yes (w : World) (rb k : Nat) (L : List UInt8) (W : World) (hL : L.length ≤ 1048576) (hR : Reader w rb k L W) (hf : labAtB k L = true) :
 Calls Tryz.prog 50 #[.pointer (some ⟨rb, 0, none⟩)] W fun e W' => ∃ a kk, e = .returned (.agg #[.int .i64 (rl k L).1, .slice a (rl k L).2.1.length kk]) ∧ OwnList W' W.heap.size (.slice a (rl k L).2.1.length kk) (rl k L).2.1 ∧ Reader w rb (k + 1) L W' ∧ W.grownBy W' (some rb) := by
 unfold labAtB at hf
 rw [Bool.and_eq_true] at hf
 have lr := hR.2.1.lt
 have h0 := hR.1
 have Z0 := hid (Blk.new W (.cells #[.int .i64 0, .slice none 0 0] 26))
 have G0 := hid (belowOnly ((Below.refl _ W).alloc (Nat.le_refl _) (.cells #[.int .i64 0, .slice none 0 0] 26)) (some rb))
 have U := hid (upTo_yes w rb k L _ hL (hR.mk' (.cells #[.int .i64 0, .slice none 0 0] 26)) hf.1)
 have hf2 := hf.2
 have hwW := hR.2.2.size
 clear hR hf
 go_enter Tryz.func50, Tryz.ntmps50
 go_wp2_with fail
 refine U.out.mono ?_
 rintro e w1 ⟨rfl, R1, G1⟩
 have Z1 := hid (Z0.out.grown G1 (fun e => by have := Option.some.inj e; omega))
 have GA := hid (grown_same G0.out G1)
 clear Z0 G0 U
 go_wp2_with fail
 refine (lab65 k L hL w1).mono ?_
 rintro e w2 ⟨a, kk, rfl, O2, hb2⟩
 rw [hf2]
 have lt1 : W.heap.size < w1.heap.size := Z1.out.lt
 have Z2 := hid ((Z1.out.below hb2).alloc (.cells #[.int .i64 (rl k L).1, .slice a (rl k L).2.1.length kk] 26))
 have Y2 := hid (Blk.new w2 (.cells #[.int .i64 (rl k L).1, .slice a (rl k L).2.1.length kk] 26))
 have G2 := hid (grown_same GA.out (belowOnly (hb2.alloc hb2.size (.cells #[.int .i64 (rl k L).1, .slice a (rl k L).2.1.length kk] 26)) (some rb)))
 have R2 := hid ((R1.up hb2).mk' (.cells #[.int .i64 (rl k L).1, .slice a (rl k L).2.1.length kk] 26))
 have N2 := hid (OwnCats.alloc O2 (.cells #[.int .i64 (rl k L).1, .slice a (rl k L).2.1.length kk] 26))
 have s2 := hb2.size
 clear Z1 GA R1 G1 O2 hb2
 obtain ⟨y0, y1⟩ := Y2.out.two
 obtain ⟨z0, z1⟩ := Z2.out.two
 have f0 := Z2.out.warm 0
 have f1 := Z2.out.warm 1
 go_wp2_with (go_at_call 52; refine (must_yes _).mono ?_; rintro e w3 ⟨rfl, rfl⟩)
 have ne1 : W.heap.size ≠ rb := by omega
 refine bodyPost_ret (results51 _ _ W.heap.size (.int .i64 (rl k L).1) (.slice a (rl k L).2.1.length kk) ((Z2.out.setAt _).setAt _) rfl) rfl ⟨a, kk, rfl, OwnList.low (OwnList.set (OwnList.set N2.out lt1 _ _) lt1 _ _) (Nat.le_of_lt lt1), ⟨h0, (R2.out.2.1.other ne1 _).other ne1 _, (R2.out.2.2.setCell hwW _).setCell hwW _⟩, grown_new (grown_new G2.out (Nat.le_refl _) _ _) (Nat.le_refl _) _ _⟩
set_option maxRecDepth 100000 in
set_option maxHeartbeats 2000000 in
theorem label_no (u : TypeId) (pv : Value) (w : World) (rb k : Nat) (L : List UInt8) (W : World) (hL : L.length ≤ 1048576) (hR : Reader w rb k L W) (hf : labAtB k L = false) (hE : Err u pv w) :
 Calls Tryz.prog 50 #[.pointer (some ⟨rb, 0, none⟩)] W fun e W' => e = gaveUp u pv ∧ Below w.heap.size w W' := by
 unfold labAtB at hf
 cases hg : fnd k L with
 | false =>
  have U := hid (upTo_no u pv w rb k L _ hL (hR.mk' (.cells #[.int .i64 0, .slice none 0 0] 26)) hg hE)
  clear hR hf
  unfold gaveUp at U ⊢
  go_enter Tryz.func50, Tryz.ntmps50
  go_wp2_with (go_at_call 69; refine U.out.mono ?_; rintro e w1 ⟨rfl, L1⟩)
  exact ⟨rfl, rfl, L1⟩
 | true =>
  rw [hg] at hf
  have hf2 : (rl k L).2.2 = false := hf
  have U := hid (upTo_yes w rb k L _ hL (hR.mk' (.cells #[.int .i64 0, .slice none 0 0] 26)) hg)
  clear hR hf
  unfold gaveUp
  go_enter Tryz.func50, Tryz.ntmps50
  go_wp2_with fail
  refine U.out.mono ?_
  rintro e w1 ⟨rfl, R1, _⟩
  go_wp2_with fail
  refine (lab65 k L hL w1).mono ?_
  rintro e w2 ⟨a, kk, rfl, O2, hb2⟩
  rw [hf2]
  have L2 := then_ R1.2.2 hb2
  have L3 := hid (L2.alloc L2.size (.cells #[.int .i64 (rl k L).1, .slice a (rl k L).2.1.length kk] 26))
  have E2 := hid (hE.below L3.out)
  clear O2 L2
  go_wp2_with (go_at_call 52; refine (must_no u pv _ E2.out).mono ?_; rintro e w3 ⟨rfl, rfl⟩; unfold gaveUp)
  exact ⟨rfl, rfl, L3.out⟩
end Go.Proofs.YthbmfbnnemgbpaaGreatDoor
namespace Go.Proofs.YthbmfbnnemgbpaaGreatDoor
open Go Go.RowKit Go.Deep Go.Maps
theorem clone_any (s : ByteArray) (w : World) (hn : s.size ≤ 281474976710656) :
 Calls Tryz.prog 51 #[.string s] w fun e w' => e = .returned (.string s) ∧ Below w.heap.size w w' := by
 have hc := fun v => Go.Proofs.Any.stringslite_Clone Tryz.cloneA s v hn
 change ∀ v : World, Calls Tryz.prog 71 #[.string s] v fun e w' => e = .returned (.string s) ∧ Below v.heap.size v w' at hc
 go_enter Tryz.func51, Tryz.ntmps51
 go_wp2_with fail
 refine (hc _).mono ?_
 rintro e w1 ⟨rfl, hb⟩
 go_wp2
 go_ret
 exact ⟨rfl, hb⟩
set_option maxRecDepth 100000 in
theorem results28 (tmps : Array Value) (W : World) (P : Nat) (x0 x1 x2 x3 x4 x5 x6 x7 x8 x9 : Value) (h : Blk W P (.cells #[x0, x1, x2, x3, x4, x5, x6, x7, x8, x9] 28)) (h2 : tmps[2]? = some (.pointer (some ⟨P, 0, none⟩))) :
 (results Tryz.f20 tmps).run Tryz.prog W = .ok (.agg #[x0, x1, x2, x3, x4, x5, x6, x7, x8, x9]) W := by
 obtain ⟨z0, z1, z2, z3, z4, z5, z6, z7, z8, z9⟩ := h.ten
 simp [results, Tryz.results20, go_sem, h2, z0, z1, z2, z3, z4, z5, z6, z7, z8, z9]
def Two (w W' : World) (v1 v2 : Value) (l1 l2 : List (Int × Int)) : Prop := ∃ M1 M2, w.heap.size ≤ M1 ∧ M1 ≤ M2 ∧ (∀ j, v1.ownBlock = some j → j < M2) ∧ OwnList W' M1 v1 l1 ∧ OwnList W' M2 v2 l2
theorem Own.lt {w : World} {B : Nat} {v : Value} {l : List (Int × Int)} (h : OwnList w B v l) : ∀ j, v.ownBlock = some j → j < w.heap.size := fun j hj => (World.ownsRow.lt h j hj).2
theorem OwnList.apart {w : World} {B P : Nat} {v : Value} {l : List (Int × Int)} (h : OwnList w B v l) (hne : ¬ v.ownBlock = some P) (i : Nat) (x : Value) : OwnList (w.setCell ⟨P, i, none⟩ x) B v l := by
 refine ⟨h.1, ?_⟩
 rcases h.2 with hn | ⟨g, cap, cur, hv, hbg, hgg, rest⟩
 ·exact .inl hn
 ·exact .inr ⟨g, cap, cur, hv, hbg, (Below.heap_setCell _ _ _ _ (fun e => hne (by rw [hv]; show some g = some P; rw [e]))).trans hgg, rest⟩
set_option maxRecDepth 100000 in
set_option maxHeartbeats 4000000 in
theorem step_yes (w : World) (rb : Nat) (L : List UInt8) (W : World) (hL : L.length ≤ 1048576) (hR : Reader w rb 0 L W) (hs : strictS L = true) :
 Calls Tryz.prog 20 #[.pointer (some ⟨rb, 0, none⟩)] W fun e W' => ∃ a1 k1 a2 k2, e = .returned (.agg #[.int .i64 (nm 0 L), .int .i64 (nm 1 L), .int .i64 (nm 2 L), .int .i64 (nm 3 L), .int .i64 (nm 4 L), .string ⟨(rst 7 L).toArray⟩, .int .i64 (rl 5 L).1, .slice a1 (rl 5 L).2.1.length k1, .int .i64 (rl 6 L).1, .slice a2 (rl 6 L).2.1.length k2]) ∧ Two w W' (.slice a1 (rl 5 L).2.1.length k1) (.slice a2 (rl 6 L).2.1.length k2) (rl 5 L).2.1 (rl 6 L).2.1 ∧ Below w.heap.size w W' := by
 unfold strictS at hs
 simp only [Bool.and_eq_true] at hs
 obtain ⟨⟨⟨⟨⟨⟨⟨h0, h1⟩, h2⟩, h3⟩, h4⟩, h5⟩, h6⟩, hr⟩ := hs
 have lr := hR.2.1.lt
 have lw := hR.2.2.size
 have ne : some W.heap.size ≠ some rb := fun e => by have := Option.some.inj e; omega
 have R0 := hid (hR.mk' zeroS)
 have Z0 := hid (Blk.new W zeroS)
 clear hR
 go_enter Tryz.func20, Tryz.ntmps20
 go_wp2_with fail
 refine (number_yes w rb 0 L _ hL R0.out h0).mono ?_
 rintro e w1 ⟨rfl, R1', G1⟩
 have R1 := hid R1'
 have Z1 := hid (Z0.out.grown G1 ne)
 clear R1' G1 R0 Z0
 go_wp2_with fail
 refine (number_yes w rb 1 L _ hL R1.out h1).mono ?_
 rintro e w2 ⟨rfl, R2', G2⟩
 have R2 := hid R2'
 have Z2 := hid (Z1.out.grown G2 ne)
 clear R2' G2 R1 Z1
 go_wp2_with fail
 refine (number_yes w rb 2 L _ hL R2.out h2).mono ?_
 rintro e w3 ⟨rfl, R3', G3⟩
 have R3 := hid R3'
 have Z3 := hid (Z2.out.grown G3 ne)
 clear R3' G3 R2 Z2
 go_wp2_with fail
 refine (number_yes w rb 3 L _ hL R3.out h3).mono ?_
 rintro e w4 ⟨rfl, R4', G4⟩
 have R4 := hid R4'
 have Z4 := hid (Z3.out.grown G4 ne)
 clear R4' G4 R3 Z3
 go_wp2_with fail
 refine (number_yes w rb 4 L _ hL R4.out h4).mono ?_
 rintro e w5 ⟨rfl, R5', G5⟩
 have R5 := hid R5'
 have Z5 := hid (Z4.out.grown G5 ne)
 clear R5' G5 R4 Z4
 go_wp2_with fail
 have lz5 : W.heap.size < w5.heap.size := Z5.out.lt
 have lr5 := R5.out.2.1.lt
 refine (label_yes w rb 5 L _ hL R5.out h5).mono ?_
 rintro e w6 ⟨a1, k1, rfl, O6', R6', G6⟩
 have R6 := hid R6'
 have Z6 := hid (Z5.out.grown G6 ne)
 have O6 := hid O6'
 have lr6 := R6.out.2.1.lt
 have l56 := G6.size
 clear R6' G6 R5 Z5 O6'
 go_wp2_with fail
 have OL := hid (Own.lt O6.out)
 refine (label_yes w rb 6 L _ hL R6.out h6).mono ?_
 rintro e w7 ⟨a2, k2, rfl, O7', R7', G7⟩
 have l67 := G7.size
 have OM := hid (Own.lt O7')
 have N7 := hid (OwnList.past O6.out G7 lr5)
 have Z7 := hid (Z6.out.grown G7 ne)
 have O7 := hid O7'
 have R7 := hid (R7'.mk' (.cells #[.int .i64 (nm 0 L), .int .i64 (nm 1 L), .int .i64 (nm 2 L), .int .i64 (nm 3 L), .int .i64 (nm 4 L), .string ⟨#[]⟩, .int .i64 (rl 5 L).1, .slice a1 (rl 5 L).2.1.length k1, .int .i64 (rl 6 L).1, .slice a2 (rl 6 L).2.1.length k2] 28))
 have N8 := hid (OwnCats.alloc N7.out (.cells #[.int .i64 (nm 0 L), .int .i64 (nm 1 L), .int .i64 (nm 2 L), .int .i64 (nm 3 L), .int .i64 (nm 4 L), .string ⟨#[]⟩, .int .i64 (rl 5 L).1, .slice a1 (rl 5 L).2.1.length k1, .int .i64 (rl 6 L).1, .slice a2 (rl 6 L).2.1.length k2] 28))
 have O8 := hid (OwnCats.alloc O7.out (.cells #[.int .i64 (nm 0 L), .int .i64 (nm 1 L), .int .i64 (nm 2 L), .int .i64 (nm 3 L), .int .i64 (nm 4 L), .string ⟨#[]⟩, .int .i64 (rl 5 L).1, .slice a1 (rl 5 L).2.1.length k1, .int .i64 (rl 6 L).1, .slice a2 (rl 6 L).2.1.length k2] 28))
 have Z8 := hid (Z7.out.alloc (.cells #[.int .i64 (nm 0 L), .int .i64 (nm 1 L), .int .i64 (nm 2 L), .int .i64 (nm 3 L), .int .i64 (nm 4 L), .string ⟨#[]⟩, .int .i64 (rl 5 L).1, .slice a1 (rl 5 L).2.1.length k1, .int .i64 (rl 6 L).1, .slice a2 (rl 6 L).2.1.length k2] 28))
 have Y8 := hid (Blk.new w7 (.cells #[.int .i64 (nm 0 L), .int .i64 (nm 1 L), .int .i64 (nm 2 L), .int .i64 (nm 3 L), .int .i64 (nm 4 L), .string ⟨#[]⟩, .int .i64 (rl 5 L).1, .slice a1 (rl 5 L).2.1.length k1, .int .i64 (rl 6 L).1, .slice a2 (rl 6 L).2.1.length k2] 28))
 have c8 := R7.out.2.1.one
 clear R7' G7 R6 Z6 O7' O6 N7 O7 Z7
 go_wp2_with fail
 refine (clone_any _ _ (by rw [size_of]; have := rst_len 7 L; omega)).mono ?_
 rintro e w8 ⟨rfl, hb8⟩
 have N9 := hid (OwnList.apart (OwnList.below N8.out hb8) (P := w7.heap.size) (fun e => by have := OL.out _ e; omega) 5 (.string ⟨(rst 7 L).toArray⟩))
 have O9 := hid (OwnList.apart (OwnList.below O8.out hb8) (P := w7.heap.size) (fun e => by have := OM.out _ e; omega) 5 (.string ⟨(rst 7 L).toArray⟩))
 have B9 := hid ((then_ R7.out.2.2 hb8).setCell (p := ⟨w7.heap.size, 5, none⟩) (show w.heap.size ≤ w7.heap.size by omega) (.string ⟨(rst 7 L).toArray⟩))
 have Z9 := hid ((Z8.out.below hb8).other (Q := w7.heap.size) (i := 5) (by omega) (.string ⟨(rst 7 L).toArray⟩))
 have Y9 := hid (Y8.out.below hb8)
 have YA : Hid (Blk (w8.setCell ⟨w7.heap.size, 5, none⟩ (.string ⟨(rst 7 L).toArray⟩)) w7.heap.size (.cells #[.int .i64 (nm 0 L), .int .i64 (nm 1 L), .int .i64 (nm 2 L), .int .i64 (nm 3 L), .int .i64 (nm 4 L), .string ⟨(rst 7 L).toArray⟩, .int .i64 (rl 5 L).1, .slice a1 (rl 5 L).2.1.length k1, .int .i64 (rl 6 L).1, .slice a2 (rl 6 L).2.1.length k2] 28)) := hid (Y9.out.setAt _)
 obtain ⟨y0, y1, y2, y3, y4, y5, y6, y7, y8, y9⟩ := Y9.out.ten
 have f5 := Y9.out.warm 5
 have P19 := hid (implStep_any (nm 0 L) (nm 1 L) (nm 2 L) (nm 3 L) (nm 4 L) ⟨(rst 7 L).toArray⟩ (rl 5 L).1 a1 (rl 5 L).2.1.length k1 (fstAt (rl 5 L).2.1) (sndAt (rl 5 L).2.1) (rl 6 L).1 a2 (rl 6 L).2.1.length k2 (fstAt (rl 6 L).2.1) (sndAt (rl 6 L).2.1) _ (by rw [size_of]; unfold maxLen; have := rst_len 7 L; omega) (by unfold maxLen; have := readL_len (pce 5 L); unfold rl; omega) (by unfold maxLen; have := readL_len (pce 6 L); unfold rl; omega) (OwnCats.cats N9.out) (OwnCats.cats O9.out))
 change Hid (Calls _ _ _ _ fun e w' => e = .returned (.bool (rightS L)) ∧ _) at P19
 rw [hr] at P19
 clear c8 N8 O8 Z8 Y8 hb8 R7
 go_wp2_with fail
 generalize w8.setCell ⟨w7.heap.size, 5, none⟩ (.string ⟨(rst 7 L).toArray⟩) = V at *
 clear y0 y1 y2 y3 y4 y5 y6 y7 y8 y9 f5 Y9
 refine P19.out.mono ?_
 rintro e w9 ⟨rfl, hb9⟩
 clear P19
 have NA := hid (OwnList.below N9.out hb9)
 have OA := hid (OwnList.below O9.out hb9)
 have BA := hid (then_ B9.out hb9)
 have ZA := hid (Z9.out.below hb9)
 have YB := hid (YA.out.below hb9)
 clear N9 O9 B9 Z9 YA hb9
 obtain ⟨y0, y1, y2, y3, y4, y5, y6, y7, y8, y9⟩ := YB.out.ten
 obtain ⟨z0, z1, z2, z3, z4, z5, z6, z7, z8, z9⟩ := ZA.out.ten
 have g0 := ZA.out.warm
 have n3 : ¬ W.heap.size = w7.heap.size := by omega
 have n4 : ¬ w7.heap.size = W.heap.size := by omega
 have lt6 : W.heap.size < w6.heap.size := by omega
 go_wp2_with (go_at_call 52; refine (must_yes _).mono ?_; rintro e w10 ⟨rfl, rfl⟩)
 refine bodyPost_ret (results28 _ _ W.heap.size (.int .i64 (nm 0 L)) (.int .i64 (nm 1 L)) (.int .i64 (nm 2 L)) (.int .i64 (nm 3 L)) (.int .i64 (nm 4 L)) (.string ⟨(rst 7 L).toArray⟩) (.int .i64 (rl 5 L).1) (.slice a1 (rl 5 L).2.1.length k1) (.int .i64 (rl 6 L).1) (.slice a2 (rl 6 L).2.1.length k2) (ZA.out.all10 _ _ _ _ _ _ _ _ _ _) rfl) rfl ⟨a1, k1, a2, k2, rfl, ⟨w5.heap.size, w6.heap.size, by omega, by omega, OL.out, ?_, ?_⟩, ?_⟩
 ·exact OwnList.set (OwnList.set (OwnList.set (OwnList.set (OwnList.set (OwnList.set (OwnList.set (OwnList.set (OwnList.set (OwnList.set NA.out lz5 _ _) lz5 _ _) lz5 _ _) lz5 _ _) lz5 _ _) lz5 _ _) lz5 _ _) lz5 _ _) lz5 _ _) lz5 _ _
 ·exact OwnList.set (OwnList.set (OwnList.set (OwnList.set (OwnList.set (OwnList.set (OwnList.set (OwnList.set (OwnList.set (OwnList.set OA.out lt6 _ _) lt6 _ _) lt6 _ _) lt6 _ _) lt6 _ _) lt6 _ _) lt6 _ _) lt6 _ _) lt6 _ _) lt6 _ _
 ·exact ((((((((((BA.out.setCell lw _).setCell lw _).setCell lw _).setCell lw _).setCell lw _).setCell lw _).setCell lw _).setCell lw _).setCell lw _).setCell lw _)
end Go.Proofs.YthbmfbnnemgbpaaGreatDoor
