/- The reader of the program: must, upTo, number, label. -/
import Derived.Test.YtcpphobokdkkeaaDoorTC
import Derived.Defers
import Derived.Recover
namespace Go.Proofs.YtcpphobokdkkeaaDoor
open Go Go.RowKit Go.Deep Go.Maps

/-- the program's own error lies there -/
def Err (u : TypeId) (pv : Value) (w : World) : Prop := w.cell? ⟨0, 0, none⟩ = some (.iface u pv) ∧ 0 < w.heap.size
theorem Err.below {u : TypeId} {pv : Value} {w w' : World} (h : Err u pv w) (hb : Below w.heap.size w w') : Err u pv w' := ⟨(hb.cell (p := ⟨0, 0, none⟩) h.2).trans h.1, Nat.lt_of_lt_of_le h.2 hb.size⟩
def gaveUp (u : TypeId) (pv : Value) : Ending := .panicked [{ v := .iface u pv, recovered := false }]

theorem must_yes (w : World) : Calls Tryd.prog 53 #[.bool true] w fun e w' => e = .returned (.tuple #[]) ∧ w' = w := by
  go_enter Tryd.func53, Tryd.ntmps53
  go_wp2
  simp [bodyPost, results, Tryd.results53]
set_option maxRecDepth 100000 in
theorem must_no (u : TypeId) (pv : Value) (w : World) (h : Err u pv w) : Calls Tryd.prog 53 #[.bool false] w fun e w' => e = gaveUp u pv ∧ w' = w := by
  have c := h.1
  go_enter Tryd.func53, Tryd.ntmps53
  go_wp2
  simp [bodyPost, gaveUp]

def cutVal (k : Nat) (L : List UInt8) : Value := .tuple #[.string ⟨(pce k L).toArray⟩, .string ⟨(rst (k + 1) L).toArray⟩, .bool (fnd k L)]
/-- the reader, behind k pieces -/
def Reader (w : World) (rb k : Nat) (L : List UInt8) (W : World) : Prop := w.heap.size ≤ rb ∧ Blk W rb (.cells #[.string ⟨(rst k L).toArray⟩] 87) ∧ Below w.heap.size w W
theorem Blk.one {W : World} {P t : Nat} {x : Value} (h : Blk W P (.cells #[x] t)) : W.cell? ⟨P, 0, none⟩ = some x := by
  unfold Blk at h
  simp [World.cell?, h]

theorem belowOnly {a b : World} (h : Below a.heap.size a b) (row : Option Nat) : a.grownBy b row := ⟨h.os, h.tape, h.output, h.size, fun j hj _ => h.block j hj⟩
theorem grown_new {a b : World} {row : Option Nat} {Q : Nat} (h : a.grownBy b row) (hQ : a.heap.size ≤ Q) (i : Nat) (v : Value) : a.grownBy (b.setCell ⟨Q, i, none⟩ v) row :=
  ⟨h.os, h.tape, h.output, by simpa [World.setCell] using h.size, fun j hj hne => (Below.heap_setCell _ _ _ _ (by show j ≠ Q; omega)).trans (h.block j hj hne)⟩
theorem grown_same {a b c : World} {P : Nat} (h : a.grownBy b (some P)) (k : b.grownBy c (some P)) : a.grownBy c (some P) :=
  ⟨k.os.trans h.os, k.tape.trans h.tape, k.output.trans h.output, Nat.le_trans h.size k.size, fun j hj hne => (k.block j (Nat.lt_of_lt_of_le hj h.size) hne).trans (h.block j hj hne)⟩
theorem OwnList.past {w w' : World} {B P : Nat} {v : Value} {l : List (Int × Int)} (h : OwnList w B v l) (hg : w.grownBy w' (some P)) (hP : P < B) : OwnList w' B v l := by
  refine ⟨h.1, ?_⟩
  rcases h.2 with hn | ⟨g, cap, cur, hv, hbg, hgg, rest⟩
  · exact .inl hn
  · exact .inr ⟨g, cap, cur, hv, hbg, (hg.block g (Array.getElem?_eq_some_iff.1 hgg).1 (fun e => by have := Option.some.inj e; omega)).trans hgg, rest⟩
theorem Reader.up {w W W' : World} {rb k : Nat} {L : List UInt8} (h : Reader w rb k L W) (hb : Below W.heap.size W W') : Reader w rb k L W' := ⟨h.1, h.2.1.below hb, then_ h.2.2 hb⟩
theorem cut70 (k : Nat) (L : List UInt8) (hL : L.length ≤ 1048576) (W : World) : Calls Tryd.prog 70 #[.string ⟨(rst k L).toArray⟩, .string ⟨#[32]⟩] W fun e w' => e = .returned (cutVal k L) ∧ Below W.heap.size W w' := cut_any ⟨(rst k L).toArray⟩ 32 W (by rw [size_of]; unfold maxLen; have := rst_len k L; omega)

set_option maxRecDepth 100000 in
set_option maxHeartbeats 1000000 in
theorem upTo_yes (w : World) (rb k : Nat) (L : List UInt8) (W : World) (hL : L.length ≤ 1048576) (hR : Reader w rb k L W) (hf : fnd k L = true) :
    Calls Tryd.prog 64 #[.pointer (some ⟨rb, 0, none⟩), .string ⟨#[32]⟩] W fun e W' => e = .returned (.string ⟨(pce k L).toArray⟩) ∧ Reader w rb (k + 1) L W' ∧ W.grownBy W' (some rb) := by
  obtain ⟨h0, hB, hW⟩ := hR
  have CT := hid (cut70 k L hL W)
  have c1 := hB.one
  have HB := hid hB
  clear hB
  go_enter Tryd.func64, Tryd.ntmps64
  go_wp2_with fail
  refine CT.out.mono ?_
  rintro e w1 ⟨rfl, hb1⟩
  have B1 := hid (HB.out.below hb1)
  have L1 := then_ hW hb1
  have z1 := B1.out.one
  have f1 := B1.out.warm 0
  unfold cutVal
  rw [hf]
  clear c1 CT HB
  go_wp2_with (go_at_call 53; refine (must_yes _).mono ?_; rintro e w2 ⟨rfl, rfl⟩)
  go_ret
  exact ⟨rfl, ⟨h0, B1.out.setAt _, L1.setCell h0 _⟩, grown_set (belowOnly hb1 _) _ _⟩
set_option maxRecDepth 100000 in
set_option maxHeartbeats 1000000 in
theorem upTo_no (u : TypeId) (pv : Value) (w : World) (rb k : Nat) (L : List UInt8) (W : World) (hL : L.length ≤ 1048576) (hR : Reader w rb k L W) (hf : fnd k L = false) (hE : Err u pv w) :
    Calls Tryd.prog 64 #[.pointer (some ⟨rb, 0, none⟩), .string ⟨#[32]⟩] W fun e W' => e = gaveUp u pv ∧ Below w.heap.size w W' := by
  unfold gaveUp
  obtain ⟨h0, hB, hW⟩ := hR
  have CT := hid (cut70 k L hL W)
  have c1 := hB.one
  have HB := hid hB
  clear hB
  go_enter Tryd.func64, Tryd.ntmps64
  go_wp2_with fail
  refine CT.out.mono ?_
  rintro e w1 ⟨rfl, hb1⟩
  have L1 := then_ hW hb1
  have E1 := hid (hE.below L1)
  unfold cutVal
  rw [hf]
  clear c1 CT HB
  go_wp2_with (go_at_call 53; refine (must_no u pv _ E1.out).mono ?_; rintro e w2 ⟨rfl, rfl⟩; unfold gaveUp)
  exact ⟨rfl, rfl, L1⟩

theorem num63 (k : Nat) (L : List UInt8) (hL : L.length ≤ 1048576) (W : World) : Calls Tryd.prog 63 #[.string ⟨(pce k L).toArray⟩] W fun e w' => e = .returned (.tuple #[.int .i64 (nm k L), .bool (okD (pce k L))]) ∧ Below W.heap.size W w' := readDecimal_any ⟨(pce k L).toArray⟩ W (by rw [size_of]; unfold maxLen; have := pce_len k L; omega)
set_option maxRecDepth 100000 in
set_option maxHeartbeats 1000000 in
theorem number_yes (w : World) (rb k : Nat) (L : List UInt8) (W : World) (hL : L.length ≤ 1048576) (hR : Reader w rb k L W) (hf : numAtB k L = true) :
    Calls Tryd.prog 50 #[.pointer (some ⟨rb, 0, none⟩)] W fun e W' => e = .returned (.int .i64 (nm k L)) ∧ Reader w rb (k + 1) L W' ∧ W.grownBy W' (some rb) := by
  unfold numAtB at hf
  rw [Bool.and_eq_true] at hf
  have U := hid (upTo_yes w rb k L W hL hR hf.1)
  have hf2 := hf.2
  clear hR hf
  go_enter Tryd.func50, Tryd.ntmps50
  go_wp2_with fail
  refine U.out.mono ?_
  rintro e w1 ⟨rfl, R1, G1⟩
  go_wp2_with fail
  refine (num63 k L hL w1).mono ?_
  rintro e w2 ⟨rfl, hb2⟩
  rw [hf2]
  go_wp2_with (go_at_call 53; refine (must_yes _).mono ?_; rintro e w3 ⟨rfl, rfl⟩)
  go_ret
  exact ⟨rfl, R1.up hb2, grown_same G1 (belowOnly hb2 _)⟩
set_option maxRecDepth 100000 in
set_option maxHeartbeats 1000000 in
theorem number_no (u : TypeId) (pv : Value) (w : World) (rb k : Nat) (L : List UInt8) (W : World) (hL : L.length ≤ 1048576) (hR : Reader w rb k L W) (hf : numAtB k L = false) (hE : Err u pv w) :
    Calls Tryd.prog 50 #[.pointer (some ⟨rb, 0, none⟩)] W fun e W' => e = gaveUp u pv ∧ Below w.heap.size w W' := by
  unfold numAtB at hf
  cases hg : fnd k L with
  | false =>
    have U := hid (upTo_no u pv w rb k L W hL hR hg hE)
    clear hR hf
    unfold gaveUp at U ⊢
    go_enter Tryd.func50, Tryd.ntmps50
    go_wp2_with (go_at_call 64; refine U.out.mono ?_; rintro e w1 ⟨rfl, L1⟩)
    exact ⟨rfl, rfl, L1⟩
  | true =>
    rw [hg] at hf
    have hf2 : okD (pce k L) = false := hf
    have U := hid (upTo_yes w rb k L W hL hR hg)
    clear hR hf
    unfold gaveUp
    go_enter Tryd.func50, Tryd.ntmps50
    go_wp2_with fail
    refine U.out.mono ?_
    rintro e w1 ⟨rfl, R1, _⟩
    go_wp2_with fail
    refine (num63 k L hL w1).mono ?_
    rintro e w2 ⟨rfl, hb2⟩
    rw [hf2]
    have L2 := then_ R1.2.2 hb2
    have E2 := hid (hE.below L2)
    go_wp2_with (go_at_call 53; refine (must_no u pv _ E2.out).mono ?_; rintro e w3 ⟨rfl, rfl⟩; unfold gaveUp)
    exact ⟨rfl, rfl, L2⟩
theorem lab65 (k : Nat) (L : List UInt8) (hL : L.length ≤ 1048576) (W : World) : Calls Tryd.prog 65 #[.string ⟨(pce k L).toArray⟩] W (RPost (rl k L) W) := implRead_any ⟨(pce k L).toArray⟩ W (by rw [size_of]; have := pce_len k L; omega)
theorem results51 (tmps : Array Value) (W : World) (P : Nat) (x y : Value) (h : Blk W P (.cells #[x, y] 31)) (h2 : tmps[2]? = some (.pointer (some ⟨P, 0, none⟩))) :
    (results Tryd.f51 tmps).run Tryd.prog W = .ok (.agg #[x, y]) W := by
  obtain ⟨z0, z1⟩ := h.two
  simp [results, Tryd.results51, go_sem, h2, z0, z1]
theorem Reader.mk' {w W : World} {rb k : Nat} {L : List UInt8} (h : Reader w rb k L W) (o : Obj) : Reader w rb k L (W.alloc o) := h.up ((Below.refl _ W).alloc (Nat.le_refl _) o)
set_option maxRecDepth 100000 in
set_option maxHeartbeats 2000000 in
theorem label_yes (w : World) (rb k : Nat) (L : List UInt8) (W : World) (hL : L.length ≤ 1048576) (hR : Reader w rb k L W) (hf : labAtB k L = true) :
    Calls Tryd.prog 51 #[.pointer (some ⟨rb, 0, none⟩)] W fun e W' => ∃ a kk, e = .returned (.agg #[.int .i64 (rl k L).1, .slice a (rl k L).2.1.length kk]) ∧ OwnList W' W.heap.size (.slice a (rl k L).2.1.length kk) (rl k L).2.1 ∧ Reader w rb (k + 1) L W' ∧ W.grownBy W' (some rb) := by
  unfold labAtB at hf
  rw [Bool.and_eq_true] at hf
  have lr := hR.2.1.lt
  have h0 := hR.1
  have Z0 := hid (Blk.new W (.cells #[.int .i64 0, .slice none 0 0] 31))
  have G0 := hid (belowOnly ((Below.refl _ W).alloc (Nat.le_refl _) (.cells #[.int .i64 0, .slice none 0 0] 31)) (some rb))
  have U := hid (upTo_yes w rb k L _ hL (hR.mk' (.cells #[.int .i64 0, .slice none 0 0] 31)) hf.1)
  have hf2 := hf.2
  have hwW := hR.2.2.size
  clear hR hf
  go_enter Tryd.func51, Tryd.ntmps51
  go_wp2_with fail
  refine U.out.mono ?_
  rintro e w1 ⟨rfl, R1, G1⟩
  have Z1 := hid (Z0.out.grown G1 (fun e => by have := Option.some.inj e; omega))
  have GA := hid (grown_same G0.out G1)
  clear Z0 G0 U
  go_wp2_with fail
  refine (lab65 k L hL w1).mono ?_
  rintro e w2 ⟨a, kk, rfl, O2, hb2⟩
  rw [hf2]
  have lt1 : W.heap.size < w1.heap.size := Z1.out.lt
  have Z2 := hid ((Z1.out.below hb2).alloc (.cells #[.int .i64 (rl k L).1, .slice a (rl k L).2.1.length kk] 31))
  have Y2 := hid (Blk.new w2 (.cells #[.int .i64 (rl k L).1, .slice a (rl k L).2.1.length kk] 31))
  have G2 := hid (grown_same GA.out (belowOnly (hb2.alloc hb2.size (.cells #[.int .i64 (rl k L).1, .slice a (rl k L).2.1.length kk] 31)) (some rb)))
  have R2 := hid ((R1.up hb2).mk' (.cells #[.int .i64 (rl k L).1, .slice a (rl k L).2.1.length kk] 31))
  have N2 := hid (OwnCats.alloc O2 (.cells #[.int .i64 (rl k L).1, .slice a (rl k L).2.1.length kk] 31))
  have s2 := hb2.size
  clear Z1 GA R1 G1 O2 hb2
  obtain ⟨y0, y1⟩ := Y2.out.two
  obtain ⟨z0, z1⟩ := Z2.out.two
  have f0 := Z2.out.warm 0
  have f1 := Z2.out.warm 1
  go_wp2_with (go_at_call 53; refine (must_yes _).mono ?_; rintro e w3 ⟨rfl, rfl⟩)
  have ne1 : W.heap.size ≠ rb := by omega
  refine bodyPost_ret (results51 _ _ W.heap.size (.int .i64 (rl k L).1) (.slice a (rl k L).2.1.length kk) ((Z2.out.setAt _).setAt _) rfl) rfl ⟨a, kk, rfl, OwnList.low (OwnList.set (OwnList.set N2.out lt1 _ _) lt1 _ _) (Nat.le_of_lt lt1), ⟨h0, (R2.out.2.1.other ne1 _).other ne1 _, (R2.out.2.2.setCell hwW _).setCell hwW _⟩, grown_new (grown_new G2.out (Nat.le_refl _) _ _) (Nat.le_refl _) _ _⟩
set_option maxRecDepth 100000 in
set_option maxHeartbeats 2000000 in
theorem label_no (u : TypeId) (pv : Value) (w : World) (rb k : Nat) (L : List UInt8) (W : World) (hL : L.length ≤ 1048576) (hR : Reader w rb k L W) (hf : labAtB k L = false) (hE : Err u pv w) :
    Calls Tryd.prog 51 #[.pointer (some ⟨rb, 0, none⟩)] W fun e W' => e = gaveUp u pv ∧ Below w.heap.size w W' := by
  unfold labAtB at hf
  cases hg : fnd k L with
  | false =>
    have U := hid (upTo_no u pv w rb k L _ hL (hR.mk' (.cells #[.int .i64 0, .slice none 0 0] 31)) hg hE)
    clear hR hf
    unfold gaveUp at U ⊢
    go_enter Tryd.func51, Tryd.ntmps51
    go_wp2_with (go_at_call 64; refine U.out.mono ?_; rintro e w1 ⟨rfl, L1⟩)
    exact ⟨rfl, rfl, L1⟩
  | true =>
    rw [hg] at hf
    have hf2 : (rl k L).2.2 = false := hf
    have U := hid (upTo_yes w rb k L _ hL (hR.mk' (.cells #[.int .i64 0, .slice none 0 0] 31)) hg)
    clear hR hf
    unfold gaveUp
    go_enter Tryd.func51, Tryd.ntmps51
    go_wp2_with fail
    refine U.out.mono ?_
    rintro e w1 ⟨rfl, R1, _⟩
    go_wp2_with fail
    refine (lab65 k L hL w1).mono ?_
    rintro e w2 ⟨a, kk, rfl, O2, hb2⟩
    rw [hf2]
    have L2 := then_ R1.2.2 hb2
    have L3 := hid (L2.alloc L2.size (.cells #[.int .i64 (rl k L).1, .slice a (rl k L).2.1.length kk] 31))
    have E2 := hid (hE.below L3.out)
    clear O2 L2
    go_wp2_with (go_at_call 53; refine (must_no u pv _ E2.out).mono ?_; rintro e w3 ⟨rfl, rfl⟩; unfold gaveUp)
    exact ⟨rfl, rfl, L3.out⟩
end Go.Proofs.YtcpphobokdkkeaaDoor
