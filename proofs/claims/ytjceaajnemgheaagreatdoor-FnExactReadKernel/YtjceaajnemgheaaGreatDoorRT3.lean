/- The reader of the program: words one by one; a thread. -/
import Derived.Test.YtjceaajnemgheaaGreatDoorZ33
import Derived.Test.YtjceaajnemgheaaGreatDoorRS2
namespace Go.Proofs.YtjceaajnemgheaaGreatDoor
open Go Go.RowKit Go.Deep Go.Maps
def CatL.bs (c : CatL) : List Nat := if 0 < c.n then (match c.a with | some p => [p.block] | none => []) else []
def IntL.bs (c : IntL) : List Nat := if 0 < c.n then (match c.a with | some p => [p.block] | none => []) else []
def StrL.bs (c : StrL) : List Nat := if 0 < c.n then (match c.a with | some p => [p.block] | none => []) else []
theorem CatL.new.bs {B : Nat} {w : World} {c : CatL} (h : c.new B w) : c.bs.Nodup ∧ ∀ b ∈ c.bs, B ≤ b ∧ b < w.heap.size := by
  unfold CatL.bs
  split
  · rename_i h0
    obtain ⟨b, m, F, e, h1, _, h3⟩ := h.2 h0
    rw [e]
    exact ⟨by simp, fun x hx => by rw [List.mem_singleton.1 hx]; exact ⟨h1, h3.lt⟩⟩
  · exact ⟨by simp, fun x hx => by cases hx⟩
theorem IntL.new.bs {B : Nat} {w : World} {c : IntL} (h : c.new B w) : c.bs.Nodup ∧ ∀ b ∈ c.bs, B ≤ b ∧ b < w.heap.size := by
  unfold IntL.bs
  split
  · rename_i h0
    obtain ⟨b, m, F, e, h1, _, h3⟩ := h.2 h0
    rw [e]
    exact ⟨by simp, fun x hx => by rw [List.mem_singleton.1 hx]; exact ⟨h1, h3.lt⟩⟩
  · exact ⟨by simp, fun x hx => by cases hx⟩
theorem StrL.new.bs {B : Nat} {w : World} {c : StrL} (h : c.new B w) : c.bs.Nodup ∧ ∀ b ∈ c.bs, B ≤ b ∧ b < w.heap.size := by
  unfold StrL.bs
  split
  · rename_i h0
    obtain ⟨b, m, F, e, h1, _, h3⟩ := h.2 h0
    rw [e]
    exact ⟨by simp, fun x hx => by rw [List.mem_singleton.1 hx]; exact ⟨h1, h3.lt⟩⟩
  · exact ⟨by simp, fun x hx => by cases hx⟩
theorem nodup_two {l1 l2 : List Nat} {M : Nat} (h1 : l1.Nodup) (h2 : l2.Nodup) (a : ∀ x ∈ l1, x < M) (b : ∀ x ∈ l2, M ≤ x) : (l1 ++ l2).Nodup := by
  rw [List.nodup_append]
  exact ⟨h1, h2, fun x hx y hy e => by have := a x hx; have := b y hy; omega⟩
theorem OwnList.sets {B P : Nat} {v : Value} {l : List (Int × Int)} (hP : P < B) : ∀ (cs : List (Nat × Value)) (w : World), OwnList w B v l → OwnList (setsC w P cs) B v l
  | [], _, h => h
  | (_, x) :: cs, _, h => OwnList.sets hP cs _ (OwnList.set h hP _ x)
theorem grown_sets {a : World} {row : Option Nat} {P : Nat} (hP : a.heap.size ≤ P) : ∀ (cs : List (Nat × Value)) (b : World), a.grownBy b row → a.grownBy (setsC b P cs) row
  | [], _, h => h
  | (_, x) :: cs, _, h => grown_sets hP cs _ (grown_new h hP _ x)
def ThrV.cb (t : ThrV) : List Nat := t.c1.bs ++ t.c2.bs
def ObjV.cb (t : ObjV) : List Nat := t.c1.bs ++ t.c2.bs
theorem OwnList.past {w w' : World} {B P : Nat} {v : Value} {l : List (Int × Int)} (h : OwnList w B v l) (hg : w.grownBy w' (some P)) (hP : P < B) : OwnList w' B v l := by
  refine ⟨h.1, ?_⟩
  rcases h.2 with hn | ⟨g, cap, cur, hv, hbg, hgg, rest⟩
  · exact .inl hn
  · exact .inr ⟨g, cap, cur, hv, hbg, (hg.block g (Array.getElem?_eq_some_iff.1 hgg).1 (fun e => by have := Option.some.inj e; omega)).trans hgg, rest⟩
theorem OwnN.past {w w' : World} {B P : Nat} {v : Value} {l : List Int} (h : OwnN w B v l) (hg : w.grownBy w' (some P)) (hP : P < B) : OwnN w' B v l := by
  refine ⟨h.1, ?_⟩
  rcases h.2 with hn | ⟨g, cap, cur, hv, hbg, hgg, rest⟩
  · exact .inl hn
  · exact .inr ⟨g, cap, cur, hv, hbg, (hg.block g (Array.getElem?_eq_some_iff.1 hgg).1 (fun e => by have := Option.some.inj e; omega)).trans hgg, rest⟩
def NumW (u : TypeId) (pv : Value) (rb : Nat) (W : World) (ws : List (List UInt8)) (e : Ending) (W' : World) : Prop := (∃ x r, ws = x :: r ∧ okD x = true ∧ e = .returned (.int .i64 (numM x)) ∧ Rdr W' rb (jn r) ∧ W.grownBy W' (some rb)) ∨ ((∀ x r, ws = x :: r → okD x = false) ∧ e = gaveUp u pv ∧ W.grownBy W' (some rb))
def LabW (u : TypeId) (pv : Value) (rb : Nat) (W : World) (ws : List (List UInt8)) (e : Ending) (W' : World) : Prop := (∃ x r a kk, ws = x :: r ∧ (readL x).2.2 = true ∧ e = .returned (.agg #[.int .i64 (readL x).1, .slice a (readL x).2.1.length kk]) ∧ OwnList W' W.heap.size (.slice a (readL x).2.1.length kk) (readL x).2.1 ∧ Rdr W' rb (jn r) ∧ W.grownBy W' (some rb)) ∨ ((∀ x r, ws = x :: r → (readL x).2.2 = false) ∧ e = gaveUp u pv ∧ W.grownBy W' (some rb))
theorem numW (u : TypeId) (pv : Value) (rb : Nat) (ws : List (List UInt8)) (W : World) (hL : (jn ws).length ≤ 1048576) (hn : ∀ w ∈ ws, no 32 w) (hR : Rdr W rb (jn ws)) (hE : Err u pv W) (h0 : rb ≠ 0) :
    Calls Tryz.prog 52 #[.pointer (some ⟨rb, 0, none⟩)] W fun e W' => NumW u pv rb W ws e W' := by
  refine (number_any u pv rb (jn ws) W hL hR hE h0).mono ?_
  intro e W' h
  cases ws with
  | nil =>
    rw [jn_nil] at h
    rcases h with ⟨h, _⟩ | ⟨_, h2, h3⟩
    · cases h
    · exact Or.inr ⟨(fun x r e => nomatch e), h2, h3⟩
  | cons x r =>
    rw [jn_cut (hn x (List.mem_cons_self ..))] at h
    rcases h with ⟨_, h1, h2, h3, h4⟩ | ⟨h1, h2, h3⟩
    · exact Or.inl ⟨x, r, rfl, h1, by rw [h2]; unfold numM; rw [if_pos h1], h3, h4⟩
    · exact Or.inr ⟨fun y s e => by cases e; simpa using h1, h2, h3⟩
theorem labW (u : TypeId) (pv : Value) (rb : Nat) (ws : List (List UInt8)) (W : World) (hL : (jn ws).length ≤ 1048576) (hn : ∀ w ∈ ws, no 32 w) (hR : Rdr W rb (jn ws)) (hE : Err u pv W) (h0 : rb ≠ 0) :
    Calls Tryz.prog 53 #[.pointer (some ⟨rb, 0, none⟩)] W fun e W' => LabW u pv rb W ws e W' := by
  refine (label_any u pv rb (jn ws) W hL hR hE h0).mono ?_
  intro e W' h
  cases ws with
  | nil =>
    rw [jn_nil] at h
    rcases h with ⟨h, _⟩ | ⟨_, h2, h3⟩
    · cases h
    · exact Or.inr ⟨(fun x r e => nomatch e), h2, h3⟩
  | cons x r =>
    rw [jn_cut (hn x (List.mem_cons_self ..))] at h
    rcases h with ⟨_, h1, a, kk, h2, h3, h4, h5⟩ | ⟨h1, h2, h3⟩
    · exact Or.inl ⟨x, r, a, kk, rfl, h1, h2, h3, h4, h5⟩
    · exact Or.inr ⟨fun y s e => by cases e; simpa using h1, h2, h3⟩
theorem thrS_out {ws : List (List UInt8)} {d : TD} (h : thrS ws = some d) : ∃ a b c e r, ws = a :: b :: c :: e :: r ∧ okD a = true ∧ (readL b).2.2 = true ∧ (readL c).2.2 = true ∧ okD e = true ∧ r.all okD = true := by
  unfold thrS at h
  split at h
  · rename_i hh
    obtain ⟨n, h0, h1, h2, h3, h4⟩ := hh
    match ws, n with
    | w0 :: w1 :: w2 :: w3 :: r, _ => exact ⟨w0, w1, w2, w3, r, rfl, h0, h1, h2, h3, h4⟩
  · cases h
theorem thrS_in {a b c e : List UInt8} {r : List (List UInt8)} (h0 : okD a = true) (h1 : (readL b).2.2 = true) (h2 : (readL c).2.2 = true) (h3 : okD e = true) (h4 : r.all okD = true) : thrS (a :: b :: c :: e :: r) = some ⟨numM a, (readL b).1, (readL b).2.1, (readL c).1, (readL c).2.1, numM e, r.map numM⟩ := by
  unfold thrS
  rw [if_pos ⟨by simp, h0, h1, h2, h3, h4⟩]
  rfl
theorem thrS_none {ws : List (List UInt8)} (h : ∀ a b c e r, ws = a :: b :: c :: e :: r → okD a = true → (readL b).2.2 = true → (readL c).2.2 = true → okD e = true → r.all okD = true → False) : thrS ws = none := by
  cases hs : thrS ws with
  | none => rfl
  | some d =>
    obtain ⟨a, b, c, e, r, h0, h1, h2, h3, h4, h5⟩ := thrS_out hs
    exact absurd (h a b c e r h0 h1 h2 h3 h4 h5) (fun x => x)
theorem results31 (tmps : Array Value) (W : World) (P : Nat) (x0 x1 x2 x3 x4 x5 x6 : Value) (h : Blk W P (.cells #[x0, x1, x2, x3, x4, x5, x6] 41)) (h2 : tmps[2]? = some (.pointer (some ⟨P, 0, none⟩))) :
    (results Tryz.f31 tmps).run Tryz.prog W = .ok (.agg #[x0, x1, x2, x3, x4, x5, x6]) W := by
  obtain ⟨z0, z1, z2, z3, z4, z5, z6⟩ := h.seven
  simp [results, Tryz.results31, go_sem, h2, z0, z1, z2, z3, z4, z5, z6]
def ThrA (u : TypeId) (pv : Value) (rb : Nat) (W : World) (ws : List (List UInt8)) (e : Ending) (W' : World) : Prop := (∃ (d : TD) (x : ThrV), thrS ws = some d ∧ e = .returned x.val ∧ d.v.same x ∧ x.new W.heap.size W' ∧ (x.own.n ≤ x.own.k ∧ x.own.k ≤ maxLen) ∧ x.cb.Nodup ∧ W.grownBy W' (some rb)) ∨ (thrS ws = none ∧ e = gaveUp u pv ∧ W.grownBy W' (some rb))
def zTh : Obj := .cells #[.int .i64 0, .int .i64 0, .slice none 0 0, .int .i64 0, .slice none 0 0, .slice none 0 0, .int .i64 0] 41
set_option maxRecDepth 100000 in
set_option maxHeartbeats 4000000 in
theorem thread_any (u : TypeId) (pv : Value) (rb : Nat) (ws : List (List UInt8)) (W : World) (hL : (jn ws).length ≤ 1048576) (hn : ∀ w ∈ ws, no 32 w) (hR : Rdr W rb (jn ws)) (hE : Err u pv W) (h0 : rb ≠ 0) :
    Calls Tryz.prog 31 #[.pointer (some ⟨rb, 0, none⟩)] W fun e W' => ThrA u pv rb W ws e W' := by
  have bz := (Below.refl _ W).alloc (Nat.le_refl _) zTh
  have Z0 := hid (Blk.new W zTh)
  have G0 := hid (belowOnly bz (some rb))
  have lr := Blk.lt hR
  have ne : W.heap.size ≠ rb := by omega
  have nx : some W.heap.size ≠ some rb := fun e => ne (Option.some.inj e)
  have HE0 := hid (hE.below bz)
  have N1 := hid (numW u pv rb ws _ hL hn (hR.below bz) (hE.below bz) h0)
  have HN := hid hn
  clear bz hE hR hn
  unfold zTh at *
  go_enter Tryz.func31, Tryz.ntmps31
  go_wp2_with fail
  refine N1.out.mono ?_
  rintro e w1 (⟨x0, r0, rfl, k0, rfl, R1, G1⟩ | ⟨hno, rfl, G1⟩)
  rotate_left
  · have en := thrS_none (ws := ws) (fun a b c e r h h1 _ _ _ _ => by rw [hno a _ h] at h1; cases h1)
    unfold gaveUp
    go_wp2
    exact ⟨rfl, Or.inr ⟨en, rfl, grown_same G0.out G1⟩⟩
  have K0 := hid k0
  have Z1 := hid (Z0.out.grown G1 nx)
  have lt0 := Z1.out.lt
  have GG1 := hid (grown_same G0.out G1)
  have E1 := hid (HE0.out.grown G1 h0)
  have l0 : (jn r0).length ≤ 1048576 := by rw [jn_cons] at hL; simp at hL; omega
  have N2 := hid (labW u pv rb r0 _ l0 (fun w hw => HN.out w (List.mem_cons_of_mem _ hw)) R1 E1.out h0)
  have s1 := GG1.out.size
  clear N1 Z0 G0 HE0 R1 G1 k0
  go_wp2_with fail
  refine N2.out.mono ?_
  rintro e w2 (⟨x1, r1, a1, k1, rfl, o1, rfl, O1, R2, G2⟩ | ⟨hno, rfl, G2⟩)
  rotate_left
  · have en := thrS_none (ws := x0 :: r0) (fun a b c e r h _ h1 _ _ _ => by rw [hno b _ (List.cons.inj h).2] at h1; cases h1)
    unfold gaveUp
    go_wp2
    exact ⟨rfl, Or.inr ⟨en, rfl, grown_same GG1.out G2⟩⟩
  have K1 := hid o1
  have OL1 := hid O1
  have O12 := hid O1
  have Z2 := hid (Z1.out.grown G2 nx)
  have GG2 := hid (grown_same GG1.out G2)
  have E2 := hid (E1.out.grown G2 h0)
  have l1 : (jn r1).length ≤ 1048576 := by rw [jn_cons] at l0; simp at l0; omega
  have N3 := hid (labW u pv rb r1 _ l1 (fun w hw => HN.out w (List.mem_cons_of_mem _ (List.mem_cons_of_mem _ hw))) R2 E2.out h0)
  have s2 := G2.size
  clear N2 Z1 GG1 E1 R2 G2 o1 O1
  go_wp2_with fail
  refine N3.out.mono ?_
  rintro e w3 (⟨x2, r2, a2, k2, rfl, o2, rfl, O2, R3, G3⟩ | ⟨hno, rfl, G3⟩)
  rotate_left
  · have en := thrS_none (ws := x0 :: x1 :: r1) (fun a b c e r h _ _ h1 _ _ => by rw [hno c _ (List.cons.inj (List.cons.inj h).2).2] at h1; cases h1)
    unfold gaveUp
    go_wp2
    exact ⟨rfl, Or.inr ⟨en, rfl, grown_same GG2.out G3⟩⟩
  have K2 := hid o2
  have OL2 := hid O2
  have OM1 := hid (OwnList.past OL1.out G3 (by omega))
  have Z3 := hid (Z2.out.grown G3 nx)
  have GG3 := hid (grown_same GG2.out G3)
  have E3 := hid (E2.out.grown G3 h0)
  have l2 : (jn r2).length ≤ 1048576 := by rw [jn_cons] at l1; simp at l1; omega
  have N4 := hid (numW u pv rb r2 _ l2 (fun w hw => HN.out w (List.mem_cons_of_mem _ (List.mem_cons_of_mem _ (List.mem_cons_of_mem _ hw)))) R3 E3.out h0)
  have s3 := G3.size
  clear N3 Z2 GG2 E2 R3 G3 o2 O2 OL1
  go_wp2_with fail
  refine N4.out.mono ?_
  rintro e w4 (⟨x3, r3, rfl, k3, rfl, R4, G4⟩ | ⟨hno, rfl, G4⟩)
  rotate_left
  · have en := thrS_none (ws := x0 :: x1 :: x2 :: r2) (fun a b c e r h _ _ _ h1 _ => by rw [hno e _ (List.cons.inj (List.cons.inj (List.cons.inj h).2).2).2] at h1; cases h1)
    unfold gaveUp
    go_wp2
    exact ⟨rfl, Or.inr ⟨en, rfl, grown_same GG3.out G4⟩⟩
  have K3 := hid k3
  have OP1 := hid (OwnList.past OM1.out G4 (by omega))
  have OP2 := hid (OwnList.past OL2.out G4 (by omega))
  have Z4 := hid (Z3.out.grown G4 nx)
  have GG4 := hid (grown_same GG3.out G4)
  have E4 := hid (E3.out.grown G4 h0)
  have l3 : (jn r3).length ≤ 1048576 := by rw [jn_cons] at l2; simp at l2; omega
  have N5 := hid (numbers_any u pv rb r3 _ l3 (fun w hw => HN.out w (List.mem_cons_of_mem _ (List.mem_cons_of_mem _ (List.mem_cons_of_mem _ (List.mem_cons_of_mem _ hw))))) R4 E4.out h0)
  have s4 := G4.size
  clear N4 Z3 GG3 E3 R4 G4 k3 OM1 OL2
  go_wp2_with fail
  refine N5.out.mono ?_
  rintro e w5 (⟨k4, a5, c5, rfl, O5, G5⟩ | ⟨hno, rfl, G5⟩)
  rotate_left
  · have en := thrS_none (ws := x0 :: x1 :: x2 :: x3 :: r3) (fun a b c e r h _ _ _ _ h1 => by rw [← (List.cons.inj (List.cons.inj (List.cons.inj (List.cons.inj h).2).2).2).2, hno] at h1; cases h1)
    unfold gaveUp
    go_wp2
    exact ⟨rfl, Or.inr ⟨en, rfl, grown_same GG4.out G5⟩⟩
  have OQ1 := hid (OwnList.past OP1.out G5 (by omega))
  have OQ2 := hid (OwnList.past OP2.out G5 (by omega))
  have ON := hid O5
  have Z5 := hid (Z4.out.grown G5 nx)
  have GG5 := hid (grown_same GG4.out G5)
  have en := hid (thrS_in K0.out K1.out K2.out K3.out k4)
  have s5 := G5.size
  have nl : r3.length ≤ 1048576 := by have := @jn_len r3; omega
  have rl1 := readL_len x1
  have rl2 := readL_len x2
  clear N5 Z4 GG4 E4 G5 k4 OP1 OP2 O5 K0 K1 K2 K3 HN hL l0 l1 l2 l3
  generalize hx : readL x1 = q1 at *
  generalize hy : readL x2 = q2 at *
  obtain ⟨b1, c1, _⟩ := q1
  obtain ⟨b2, c2, _⟩ := q2
  simp only at OQ1 OQ2 O12 rl1 rl2 en ⊢
  have EM : (r3.map numM).length = r3.length := by simp
  have wf := Z5.out.warm
  obtain ⟨z0, z1, z2, z3, z4, z5, z6⟩ := Z5.out.seven
  clear hx hy
  have CS := hid (Z5.out.st7 (.int .i64 (numM x0)) (.int .i64 b1) (.slice a1 c1.length k1) (.int .i64 b2) (.slice a2 c2.length k2) (.slice a5 r3.length c5) (.int .i64 (numM x3)))
  have Q1 := hid (OwnList.sets (P := W.heap.size) (by omega) [(0, .int .i64 (numM x0)), (1, .int .i64 b1), (2, .slice a1 c1.length k1), (3, .int .i64 b2), (4, .slice a2 c2.length k2), (5, .slice a5 r3.length c5), (6, .int .i64 (numM x3))] _ OQ1.out)
  have Q2 := hid (OwnList.sets (P := W.heap.size) (by omega) [(0, .int .i64 (numM x0)), (1, .int .i64 b1), (2, .slice a1 c1.length k1), (3, .int .i64 b2), (4, .slice a2 c2.length k2), (5, .slice a5 r3.length c5), (6, .int .i64 (numM x3))] _ OQ2.out)
  have QN := hid (OwnN.others (P := W.heap.size) (fun e => by have := own_low ON.out _ e; omega) [(0, .int .i64 (numM x0)), (1, .int .i64 b1), (2, .slice a1 c1.length k1), (3, .int .i64 b2), (4, .slice a2 c2.length k2), (5, .slice a5 r3.length c5), (6, .int .i64 (numM x3))] _ ON.out)
  have QG := hid (grown_sets (P := W.heap.size) (Nat.le_refl _) [(0, .int .i64 (numM x0)), (1, .int .i64 b1), (2, .slice a1 c1.length k1), (3, .int .i64 b2), (4, .slice a2 c2.length k2), (5, .slice a5 r3.length c5), (6, .int .i64 (numM x3))] _ GG5.out)
  go_wp2
  have n1 := (OwnCats.newL Q1.out (by omega))
  have n2 := (OwnCats.newL Q2.out (by omega))
  have n3 := OwnN.int (a := a5) (c := c5) (l := r3.map numM) (by rw [EM]; exact QN.out) (by rw [EM]; omega)
  have rm := own_room (by have := QN.out; unfold OwnN at this; rw [EM] at this; exact this)
  rw [EM] at n3
  have nd : ((⟨a1, c1.length, k1, fstAt c1, sndAt c1⟩ : CatL).bs ++ (⟨a2, c2.length, k2, fstAt c2, sndAt c2⟩ : CatL).bs).Nodup := by
    have o1 := (OwnCats.newL O12.out (by omega)).bs
    exact nodup_two n1.bs.1 n2.bs.1 (fun x hx => (o1.2 x hx).2) (fun x hx => (n2.bs.2 x hx).1)
  exact bodyPost_ret (results31 _ _ W.heap.size _ _ _ _ _ _ _ CS.out rfl) rfl (Or.inl ⟨_, ⟨numM x0, b1, ⟨a1, c1.length, k1, fstAt c1, sndAt c1⟩, b2, ⟨a2, c2.length, k2, fstAt c2, sndAt c2⟩, ⟨a5, r3.length, c5, fun i => (r3.map numM).getD i 0⟩, numM x3⟩, en.out, rfl, ⟨rfl, rfl, ⟨rfl, rfl, rfl⟩, rfl, ⟨rfl, rfl, rfl⟩, ⟨EM.symm, rfl⟩, rfl⟩, ⟨n1.low (by omega), n2.low (by omega), n3.low (by omega)⟩, rm, nd, QG.out⟩)
end Go.Proofs.YtjceaajnemgheaaGreatDoor
