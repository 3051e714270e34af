/- Marks in kernels: objects, and kernels. -/
import Derived.Test.YtjceaajnemgheaaGreatDoorZ5
import Derived.Test.YtjceaajnemgheaaGreatDoorZ1
import Derived.Deep.AppendLies
import Derived.Laws.OwnMore
import Derived.WideShapes
namespace Go.Proofs.YtjceaajnemgheaaGreatDoor
open Go Go.RowKit Go.Deep

def SlO (G : Nat → Value) (n : Nat) (T : Nat → ObjV) : Prop := ∀ j, j < n → G (j * 10 + 4) = (T j).c1.val ∧ G (j * 10 + 6) = (T j).items.val ∧ G (j * 10 + 7) = (T j).own.val ∧ G (j * 10 + 9) = (T j).c2.val
theorem SlO.set {G : Nat → Value} {n : Nat} {T : Nat → ObjV} (h : SlO G n T) (j r : Nat) (hr : r = 0 ∨ r = 1 ∨ r = 2 ∨ r = 3 ∨ r = 5 ∨ r = 8) (v : Value) : SlO (fun q => if q = j * 10 + r then v else G q) n T := fun i hi => by
  obtain ⟨h1, h2, h3, h4⟩ := h i hi
  refine ⟨?_, ?_, ?_, ?_⟩
  · dsimp only; rw [if_neg (by omega)]; exact h1
  · dsimp only; rw [if_neg (by omega)]; exact h2
  · dsimp only; rw [if_neg (by omega)]; exact h3
  · dsimp only; rw [if_neg (by omega)]; exact h4
def ObjV.room (lo hi : Nat) (w : World) (t : ObjV) : Prop := t.c1.room lo hi w ∧ t.items.room lo hi w ∧ t.own.room lo hi w ∧ t.c2.room lo hi w
theorem ObjV.room.mk {lo hi : Nat} {w w' : World} {t : ObjV} (h : t.room lo hi w) (k : Mk lo hi w w') : t.room lo hi w' := ⟨h.1.mk k, h.2.1.mk k, h.2.2.1.mk k, h.2.2.2.mk k⟩
def ObjRoom (lo hi : Nat) (w : World) (a : Option Addr) (n : Nat) (T : Nat → ObjV) : Prop :=
  n ≤ 1048576 ∧ (0 < n → ∃ b G, a = some ⟨b, 0, none⟩ ∧ lo ≤ b ∧ b < hi ∧ w.rowIs b 45 (n * 10) G ∧ SlO G n T) ∧ ∀ j, j < n → (T j).room lo hi w

set_option maxRecDepth 100000 in
set_option maxHeartbeats 8000000 in
theorem markObjectS_k (a : Option Addr) (n cap : Nat) (T : Nat → ObjV) (lo hi : Nat) (k0 : Int) (w : World) (hr : ObjRoom lo hi w a n T) (h0 : 1 ≤ k0) (h1 : k0 ≤ 100000000000000) :
    Calls Tryz.prog 19 #[.slice a n cap, .int .i64 k0] w fun e w' => ∃ k1 : Int, e = .returned (.int .i64 k1) ∧ k0 ≤ k1 ∧ k1 ≤ k0 + n * 8388608 ∧ Mk lo hi w w' := by
  obtain ⟨hn, hr, hT⟩ := hr
  have HR := hid hr
  have HT := hid hT
  clear hr hT
  by_cases hz : n = 0
  · subst hz
    go_enter Tryz.func19, Tryz.ntmps19
    go_wp2
    go_loop [1, 5] (fun kk i => i = .int .i64 0 ∧ kk = .int .i64 k0) (fun _ _ => 0)
    case atStart => exact ⟨rfl, rfl⟩
    case round =>
      obtain ⟨rfl, rfl⟩ := hrel
      go_wp2
      go_ret
      exact ⟨k0, rfl, by omega, by omega, Mk.refl _ _ _⟩
  obtain ⟨b, G0, rfl, l1, l2, hR0, hS0⟩ := HR.out (by omega)
  have R0 := hid hR0
  have S0 := hid hS0
  clear hR0 hS0 HR
  go_enter Tryz.func19, Tryz.ntmps19
  go_wp2
  go_loopw [1, 5] (fun kk i wr => ∃ (j : Nat) (x : Int), j ≤ n ∧ i = .int .i64 j ∧ kk = .int .i64 x ∧ k0 ≤ x ∧ x ≤ k0 + j * 8388608 ∧ Hid (Mk lo hi w wr) ∧ Hid (∃ G, wr.rowIs b 45 (n * 10) G ∧ SlO G n T)) (fun _ i _ => n - (intOf i).toNat)
  case atStart => exact ⟨0, k0, Nat.zero_le _, rfl, rfl, by omega, by omega, hid (Mk.refl _ _ _), hid ⟨G0, R0.out, S0.out⟩⟩
  case round =>
    obtain ⟨j, x, hj, rfl, rfl, x0, x1, HM, HG⟩ := hrel
    by_cases hlt : j < n
    · obtain ⟨G, hR, hS⟩ := HG.out
      obtain ⟨s1, s2, s3, s4⟩ := hS j hlt
      have i1 : (j : Int) < (n : Int) := by omega
      have z0 := hR.cell (i := j * 10) (by omega)
      have z1 := hR.cell (i := j * 10 + 1) (by omega)
      have z2 := hR.cell (i := j * 10 + 2) (by omega)
      have z3 := hR.cell (i := j * 10 + 3) (by omega)
      have z4 := hR.cell (i := j * 10 + 4) (by omega)
      rw [s1] at z4
      have zf := hR.frozen
      have M1 := hid ((((HM.out.set l1 l2 (j * 10) (.int .i64 x)).set l1 l2 (j * 10 + 1) (.int .i64 (x + 1))).set l1 l2 (j * 10 + 2) (.int .i64 (x + 1 + 1))).set l1 l2 (j * 10 + 3) (.int .i64 (x + 1 + 1 + 1)))
      have R1 := hid ((((hR.set (j * 10) (.int .i64 x)).set (j * 10 + 1) (.int .i64 (x + 1))).set (j * 10 + 2) (.int .i64 (x + 1 + 1))).set (j * 10 + 3) (.int .i64 (x + 1 + 1 + 1)))
      have S1 := hid ((((hS.set j 0 (by omega) (.int .i64 x)).set j 1 (by omega) (.int .i64 (x + 1))).set j 2 (by omega) (.int .i64 (x + 1 + 1))).set j 3 (by omega) (.int .i64 (x + 1 + 1 + 1)))
      have C1 := hid (markCatS_k (T j).c1 lo hi (x + 1 + 1 + 1 + 1) _ ((HT.out j hlt).mk M1.out).1 (by omega) (by omega))
      have q1 := (HT.out j hlt).1.1
      have q2 := (HT.out j hlt).2.1.1
      have q3 := (HT.out j hlt).2.2.1.1
      have q4 := (HT.out j hlt).2.2.2.1
      clear hR hS HM HG s1 s2 s3 s4
      go_wp2_with fail
      refine C1.out.mono ?_
      rintro e w2 ⟨rfl, m2⟩
      have M2 := hid (M1.out.trans m2.toMk)
      obtain ⟨G2, R2, S2⟩ : ∃ G2, w2.rowIs b 45 (n * 10) G2 ∧ SlO G2 n T := ⟨_, m2.big _ _ _ _ (by decide) (by decide) (by decide) R1.out, S1.out⟩
      clear z0 z1 z2 z3 z4 zf M1 R1 S1 C1 m2
      generalize hy : x + 1 + 1 + 1 + 1 + 2 * ((T j).c1.n : Int) = y at *
      have y0 : k0 ≤ y ∧ y ≤ x + 4 + 2097152 := by omega
      clear hy
      have R2' := hid R2
      have S2' := hid S2
      clear R2 S2
      go_wp2_with fail
      refine (markText_k y w2 (by omega) (by omega)).mono ?_
      rintro e w3 ⟨st, rfl, hb3⟩
      have m3 := MkL.of_below (lo := lo) (hi := hi) hb3
      have M3 := hid (M2.out.trans m3.toMk)
      obtain ⟨G3, R3, S3⟩ : ∃ G3, w3.rowIs b 45 (n * 10) G3 ∧ SlO G3 n T := ⟨_, m3.big _ _ _ _ (by decide) (by decide) (by decide) R2'.out, S2'.out⟩
      clear R2' S2' M2 m3 hb3
      obtain ⟨s1, s2, s3, s4⟩ := S3 j hlt
      have z5 := R3.cell (i := j * 10 + 5) (by omega)
      have z6 := R3.cell (i := j * 10 + 6) (by omega)
      rw [s2] at z6
      have zf := R3.frozen
      have M4 := hid (M3.out.set l1 l2 (j * 10 + 5) (.string st))
      have R4 := hid (R3.set (j * 10 + 5) (.string st))
      have S4 := hid (S3.set j 5 (by omega) (.string st))
      have C4 := hid (markStr_k (T j).items lo hi (y + 1) _ ((HT.out j hlt).mk M4.out).2.1 (by omega) (by omega))
      clear R3 S3 M3 s1 s2 s3 s4
      go_wp2_with fail
      refine C4.out.mono ?_
      rintro e w5 ⟨rfl, m5⟩
      have M5 := hid (M4.out.trans m5.toMk)
      obtain ⟨G5, R5, S5⟩ : ∃ G5, w5.rowIs b 45 (n * 10) G5 ∧ SlO G5 n T := ⟨_, m5.big _ _ _ _ (by decide) (by decide) (by decide) R4.out, S4.out⟩
      clear z5 z6 zf M4 R4 S4 C4 m5
      generalize hv : y + 1 + ((T j).items.n : Int) = v at *
      have v0 : k0 ≤ v ∧ v ≤ x + 5 + 3145728 := by omega
      clear hv
      obtain ⟨s1, s2, s3, s4⟩ := S5 j hlt
      have z7 := R5.cell (i := j * 10 + 7) (by omega)
      rw [s3] at z7
      have C6 := hid (markInt_k (T j).own lo hi v _ ((HT.out j hlt).mk M5.out).2.2.1 (by omega) (by omega))
      clear s1 s2 s3 s4
      go_wp2_with fail
      refine C6.out.mono ?_
      rintro e w6 ⟨rfl, m6⟩
      have M6 := hid (M5.out.trans m6.toMk)
      have R6 := m6.big _ _ _ _ (by decide) (by decide) (by decide) R5
      clear z7 M5 R5 C6 m6
      generalize hu : v + ((T j).own.n : Int) = u at *
      have u0 : k0 ≤ u ∧ u ≤ x + 5 + 4194304 := by omega
      clear hu
      obtain ⟨s1, s2, s3, s4⟩ := S5 j hlt
      have z8 := R6.cell (i := j * 10 + 8) (by omega)
      have z9 := R6.cell (i := j * 10 + 9) (by omega)
      rw [s4] at z9
      have zf := R6.frozen
      have M7 := hid (M6.out.set l1 l2 (j * 10 + 8) (.int .i64 u))
      have R7 := hid (R6.set (j * 10 + 8) (.int .i64 u))
      have S7 := hid (S5.set j 8 (by omega) (.int .i64 u))
      have C7 := hid (markCatS_k (T j).c2 lo hi (u + 1) _ ((HT.out j hlt).mk M7.out).2.2.2 (by omega) (by omega))
      clear R6 S5 M6 s1 s2 s3 s4
      go_wp2_with fail
      refine C7.out.mono ?_
      rintro e w8 ⟨rfl, m8⟩
      have M8 := hid (M7.out.trans m8.toMk)
      have R8 : Hid (∃ G, w8.rowIs b 45 (n * 10) G ∧ SlO G n T) := hid ⟨_, m8.big _ _ _ _ (by decide) (by decide) (by decide) R7.out, S7.out⟩
      clear z8 z9 zf M7 R7 S7 C7 m8
      generalize ht : u + 1 + 2 * ((T j).c2.n : Int) = t at *
      have t0 : k0 ≤ t ∧ t ≤ x + 6 + 6291456 := by omega
      clear ht
      go_wp2
      exact ⟨⟨j + 1, t, by omega, by go_num, rfl, by omega, by omega, M8, R8⟩, by simp [intOf]; omega⟩
    · go_wp2
      go_ret
      exact ⟨x, rfl, x0, by have e : j = n := by omega
                            subst e; exact x1, HM.out⟩

def KerV.room (lo hi : Nat) (w : World) (k : KerV) : Prop := ThrRoom lo hi w k.ta k.tn k.T ∧ ObjRoom lo hi w k.oa k.on k.O
theorem ThrRoom.mkL {lo hi : Nat} {w w' : World} {a : Option Addr} {n : Nat} {T : Nat → ThrV} (h : ThrRoom lo hi w a n T) (k : MkL lo hi w w') : ThrRoom lo hi w' a n T :=
  ⟨h.1, fun hn => by
    obtain ⟨b, G, e, h1, h2, h3, h4⟩ := h.2.1 hn
    exact ⟨b, G, e, h1, h2, k.big _ _ _ _ (by decide) (by decide) (by decide) h3, h4⟩, fun j hj => (h.2.2 j hj).mk k.toMk⟩
theorem ObjRoom.mkL {lo hi : Nat} {w w' : World} {a : Option Addr} {n : Nat} {T : Nat → ObjV} (h : ObjRoom lo hi w a n T) (k : MkL lo hi w w') : ObjRoom lo hi w' a n T :=
  ⟨h.1, fun hn => by
    obtain ⟨b, G, e, h1, h2, h3, h4⟩ := h.2.1 hn
    exact ⟨b, G, e, h1, h2, k.big _ _ _ _ (by decide) (by decide) (by decide) h3, h4⟩, fun j hj => (h.2.2 j hj).mk k.toMk⟩
theorem ObjRoom.mkT {lo hi : Nat} {w w' : World} {a : Option Addr} {n : Nat} {T : Nat → ObjV} (h : ObjRoom lo hi w a n T) (k : MkT lo hi w w') : ObjRoom lo hi w' a n T :=
  ⟨h.1, fun hn => by
    obtain ⟨b, G, e, h1, h2, h3, h4⟩ := h.2.1 hn
    exact ⟨b, G, e, h1, h2, k.big _ _ _ _ (by decide) (by decide) (by decide) (by decide) h3, h4⟩, fun j hj => (h.2.2 j hj).mk k.toMk⟩
theorem CatL.row.room {B : Nat} {w : World} {c : CatL} (h : c.row w) (hn : c.n ≤ 1048576) (hs : ∀ p, c.a = some p → B ≤ p.block) : c.room B w.heap.size w := ⟨hn, fun _ => by
  obtain ⟨b, e, hr⟩ := h
  exact ⟨b, _, _, e, hs _ e, hr.lt, Nat.le_refl _, hr⟩⟩
theorem IntL.row.room {B : Nat} {w : World} {c : IntL} (h : c.row w) (hn : c.n ≤ 1048576) (hs : ∀ p, c.a = some p → B ≤ p.block) : c.room B w.heap.size w := ⟨hn, fun _ => by
  obtain ⟨b, e, hr⟩ := h
  exact ⟨b, _, _, e, hs _ e, hr.lt, Nat.le_refl _, hr⟩⟩
theorem StrL.row.room {B : Nat} {w : World} {c : StrL} (h : c.row w) (hn : c.n ≤ 1048576) (hs : ∀ p, c.a = some p → B ≤ p.block) : c.room B w.heap.size w := ⟨hn, fun _ => by
  obtain ⟨b, e, hr⟩ := h
  exact ⟨b, _, _, e, hs _ e, hr.lt, Nat.le_refl _, hr⟩⟩
theorem KerV.row.room {B : Nat} {w : World} {k : KerV} (h : k.row w) (hs : k.small) (hn : k.since B) : k.room B w.heap.size w := by
  obtain ⟨⟨tb, G, e1, hG, hT⟩, ⟨ob, G', e2, hG', hO⟩⟩ := h
  obtain ⟨n1, n2, n3, n4⟩ := hn
  obtain ⟨⟨s1, s2⟩, ⟨s3, s4⟩⟩ := hs
  refine ⟨⟨s1, fun _ => ⟨tb, G, e1, n1 _ e1, hG.lt, hG, fun j hj => ?_⟩, fun j hj => ?_⟩, ⟨s3, fun _ => ⟨ob, G', e2, n3 _ e2, hG'.lt, hG', fun j hj => ?_⟩, fun j hj => ?_⟩⟩
  · have g := (hT j hj).1
    exact ⟨g.g2, g.g4, g.g5⟩
  · obtain ⟨_, r1, r2, r3⟩ := hT j hj
    obtain ⟨z1, z2, z3⟩ := s2 j hj
    obtain ⟨y1, y2, y3⟩ := n2 j hj
    exact ⟨r1.room z1 y1, r2.room z2 y2, r3.room z3 y3⟩
  · have g := (hO j hj).1
    exact ⟨g.g4, g.g6, g.g7, g.g9⟩
  · obtain ⟨_, r1, r2, r3, r4⟩ := hO j hj
    obtain ⟨z1, _, z2, z3, z4⟩ := s4 j hj
    obtain ⟨y1, y2, y3, y4⟩ := n4 j hj
    exact ⟨r1.room z1 y1, r2.room z2.1 y2, r3.room z3 y3, r4.room z4 y4⟩

set_option maxRecDepth 100000 in
set_option maxHeartbeats 4000000 in
theorem markKernel_k (k : KerV) (lo hi : Nat) (w : World) (hr : k.room lo hi w) (hh : hi ≤ w.heap.size) :
    Calls Tryz.prog 7 #[k.val, .int .i64 1] w fun e w' => ∃ k1 : Int, e = .returned (.int .i64 k1) ∧ 1 ≤ k1 ∧ Mk lo hi w w' := by
  have b0 : Below w.heap.size w (w.alloc (.cells #[.slice k.ta k.tn k.tk, .slice k.oa k.on k.ok] 25)) := (Below.refl _ w).alloc (Nat.le_refl _) _
  have A0 := Blk.new w (.cells #[.slice k.ta k.tn k.tk, .slice k.oa k.on k.ok] 25)
  have L0 := MkL.of_below (lo := lo) (hi := hi) b0
  have T1 := hr.1.mkL L0
  have O1 := hid (hr.2.mkL L0)
  have n1 := hr.1.1
  have M0 := hid L0.toMk
  have C1 := hid (markThreadS_k _ _ k.tk _ lo hi 1 _ T1 (by omega) (by omega))
  unfold KerV.val
  obtain ⟨x0, x1⟩ := A0.two
  clear hr L0 T1 b0
  go_enter Tryz.func7, Tryz.ntmps7
  go_wp2_with fail
  refine C1.out.mono ?_
  rintro e w1 ⟨k1, rfl, h1, h2, m1⟩
  have O2 := O1.out.mkT m1
  have M1 := hid (M0.out.trans m1.toMk)
  have A1 : Blk w1 w.heap.size (.cells #[.slice k.ta k.tn k.tk, .slice k.oa k.on k.ok] 25) := (m1.block _ A0.lt (.inr hh)).trans A0
  have C2 := hid (markObjectS_k _ _ k.ok _ lo hi k1 _ O2 h1 (by omega))
  clear x0 x1 C1 O1 m1 A0 M0
  obtain ⟨x0, x1⟩ := A1.two
  go_wp2_with fail
  refine C2.out.mono ?_
  rintro e w2 ⟨k2, rfl, h3, h4, m2⟩
  have M2 := hid (M1.out.trans m2)
  clear x0 x1 A1 m2 C2 M1 O2
  go_wp2
  go_ret
  exact ⟨k2, rfl, by omega, M2.out⟩
end Go.Proofs.YtjceaajnemgheaaGreatDoor
namespace Go.Proofs.YtjceaajnemgheaaGreatDoor
open Go.RowKit Go.Deep Go.Maps
open Go.WideShapes (add_plain)
def catCells (f g : Nat → Int) (n : Nat) : List Value := (List.range (n * 2)).map (pairCell f g)
theorem catCells_length (f g : Nat → Int) (n : Nat) : (catCells f g n).length = n * 2 := by simp [catCells]
theorem catCells_get (f g : Nat → Int) (n j : Nat) (h : j < n * 2) : (catCells f g n)[j]? = some (pairCell f g j) := by simp [catCells, h]
theorem catCells_one (f g : Nat → Int) (n : Nat) : ∀ u ∈ catCells f g n, u.oneCell' = true := by
  intro u hu
  obtain ⟨j, _, rfl⟩ := List.mem_map.1 hu
  unfold pairCell; split <;> rfl
def glue (n : Nat) (f f' : Nat → Int) (i : Nat) : Int := if i < n then f i else f' (i - n)

theorem catCells_append (f g f' g' : Nat → Int) (n m : Nat) : catCells f g n ++ catCells f' g' m = catCells (glue n f f') (glue n g g') (n + m) := by
  apply List.ext_getElem?
  intro j
  by_cases h1 : j < n * 2
  · rw [List.getElem?_append_left (by rw [catCells_length]; exact h1), catCells_get _ _ _ _ h1, catCells_get _ _ _ _ (by omega)]
    have : j / 2 < n := by omega
    simp [pairCell, glue, this]
  · rw [List.getElem?_append_right (by rw [catCells_length]; omega), catCells_length]
    by_cases h2 : j < (n + m) * 2
    · rw [catCells_get _ _ _ _ (by omega), catCells_get _ _ _ _ h2]
      have a1 : ¬ j / 2 < n := by omega
      have a2 : (j - n * 2) / 2 = j / 2 - n := by omega
      have a3 : (j - n * 2) % 2 = j % 2 := by omega
      simp [pairCell, glue, a1, a2, a3]
    · rw [List.getElem?_eq_none (by rw [catCells_length]; omega), List.getElem?_eq_none (by rw [catCells_length]; omega)]

def OwnCats (w : World) (B : Nat) (v : Value) (n : Nat) (f g : Nat → Int) : Prop := w.ownsRow B 58 2 v n (catCells f g n)

theorem OwnCats.nil (w : World) (B : Nat) (f g : Nat → Int) : OwnCats w B (.slice none 0 0) 0 f g := World.ownsRow_nil _ _ _ _

theorem OwnCats.cats {w : World} {B n c : Nat} {a : Option Addr} {f g : Nat → Int} (h : OwnCats w B (.slice a n c) n f g) : CatsAt w a n f g := fun hn => by
  obtain ⟨gb, cap, hv, _, hlt⟩ := World.ownsRow.form h hn
  simp only [Value.slice.injEq] at hv
  obtain ⟨rfl, _, _⟩ := hv
  have hc := World.ownsRow.cells h (g := gb) rfl
  refine ⟨gb, 0, rfl, hlt, fun i hi => ⟨?_, ?_⟩⟩
  · have t := hc (i * 2) _ (catCells_get f g n (i * 2) (by omega))
    rw [add_plain] at t
    rw [t]
    have e1 : i * 2 % 2 = 0 := by omega
    have e2 : i * 2 / 2 = i := by omega
    simp only [pairCell, e1, e2, if_true]
  · have t := hc (i * 2 + 1) _ (catCells_get f g n (i * 2 + 1) (by omega))
    rw [add_plain, ← Nat.add_assoc] at t
    rw [t]
    have e1 : ¬ (i * 2 + 1) % 2 = 0 := by omega
    have e2 : (i * 2 + 1) / 2 = i := by omega
    simp only [pairCell, e2, if_neg e1]

theorem OwnCats.shape {w : World} {B n : Nat} {v : Value} {f g : Nat → Int} (h : OwnCats w B v n f g) : ∃ a c, v = .slice a n c := by
  rcases h.2 with ⟨rfl, rfl⟩ | ⟨gb, cap, cur, rfl, _⟩
  · exact ⟨_, _, rfl⟩
  · exact ⟨_, _, rfl⟩

theorem news_of_cats {w : World} {b off m : Nat} {f g : Nat → Int} (h : ∀ i, i < m → w.cell? ⟨b, off + i * 2, none⟩ = some (.int .i64 (f i)) ∧ w.cell? ⟨b, off + i * 2 + 1, none⟩ = some (.int .i64 (g i))) :
    ∀ j u, (catCells f g m)[j]? = some u → w.cell? ((⟨b, off, none⟩ : Addr).add j) = some u := by
  intro j u hu
  have hj : j < m * 2 := by
    apply Nat.lt_of_not_le; intro hle
    rw [List.getElem?_eq_none (by rw [catCells_length]; exact hle)] at hu; cases hu
  rw [catCells_get _ _ _ _ hj] at hu
  cases hu
  obtain ⟨h1, h2⟩ := h (j / 2) (by omega)
  rw [add_plain]
  rcases Nat.mod_two_eq_zero_or_one j with e | e
  · have e2 : off + j / 2 * 2 = off + j := by omega
    rw [e2] at h1
    rw [h1]; simp [pairCell, e]
  · have e2 : off + j / 2 * 2 + 1 = off + j := by omega
    rw [e2] at h2
    rw [h2]; simp [pairCell, e]

theorem run_append_cats_some (w : World) (ty B : Nat) (v : Value) (n : Nat) (f g : Nat → Int) (hown : OwnCats w B v n f g) (a : Addr) (m c : Nat) (f' g' : Nat → Int)
    (hnews : ∀ j u, (catCells f' g' m)[j]? = some u → w.cell? (a.add j) = some u) (hm : n + m ≤ 4194304) (hB : B ≤ w.heap.size) :
    ∃ a' c' w', (Builtin.append_ #[37, 37] ty #[v, .slice (some a) m c]).run Tryz.prog w = .ok (.slice a' (n + m) c') w' ∧ OwnCats w' B (.slice a' (n + m) c') (n + m) (glue n f f') (glue n g g') ∧ w.grownBy w' v.ownBlock ∧
      ((Value.slice a' (n + m) c').ownBlock = v.ownBlock ∨ (Value.slice a' (n + m) c').ownBlock = some w.heap.size) := by
  obtain ⟨i0, hi, hz0, hz1, hz2⟩ := info_parts Tryz.info58
  obtain ⟨v', w', hr, h2, h3, _, h5⟩ := run_append_own_at (P := Tryz.prog) w B 37 ty 58 i0 _ 2 16 Tryz.underlying37 hi hz0 hz1 hz2 rfl (by omega) v n (catCells f g n) hown a m c (catCells f' g' m) (catCells_length _ _ _) hnews (catCells_one _ _ _) (by unfold maxLen; omega) (by omega) hB
  rw [catCells_append] at h2
  obtain ⟨a', c', rfl⟩ := OwnCats.shape h2
  exact ⟨a', c', w', hr, h2, h3, h5⟩

theorem run_append_cats (w : World) (ty B : Nat) (v : Value) (n : Nat) (f g : Nat → Int) (hown : OwnCats w B v n f g) (ad : Option Addr) (m c : Nat) (f' g' : Nat → Int) (hc : CatsAt w ad m f' g')
    (hm : n + m ≤ 4194304) (hB : B ≤ w.heap.size) :
    ∃ a' c' w', (Builtin.append_ #[37, 37] ty #[v, .slice ad m c]).run Tryz.prog w = .ok (.slice a' (n + m) c') w' ∧ OwnCats w' B (.slice a' (n + m) c') (n + m) (glue n f f') (glue n g g') ∧ w.grownBy w' v.ownBlock ∧
      ((Value.slice a' (n + m) c').ownBlock = v.ownBlock ∨ (Value.slice a' (n + m) c').ownBlock = some w.heap.size) := by
  by_cases h0 : 0 < m
  · obtain ⟨b, off, rfl, _, hcc⟩ := hc h0
    exact run_append_cats_some w ty B v n f g hown _ m c f' g' (news_of_cats hcc) hm hB
  · obtain rfl : m = 0 := by omega
    cases ad with
    | some a => exact run_append_cats_some w ty B v n f g hown a 0 c f' g' (fun j u hu => by simp [catCells] at hu) hm hB
    | none =>
      obtain ⟨i0, hi, hz0, hz1, hz2⟩ := info_parts Tryz.info58
      have e := catCells_append f g f' g' n 0
      have e0 : catCells f' g' 0 = [] := rfl
      rw [e0, List.append_nil] at e
      have hown' := hown
      unfold OwnCats at hown' ⊢
      rw [e] at hown'
      obtain ⟨a', c', rfl⟩ := OwnCats.shape hown
      refine ⟨a', c', w, ?_, hown', ⟨rfl, rfl, rfl, Nat.le_refl _, fun _ _ _ => rfl⟩, .inl rfl⟩
      obtain ⟨_, hx⟩ := hown
      rcases hx with ⟨hv, rfl⟩ | ⟨gb, cap, cur, hv, _, _, hnc, _⟩
      · simp only [Value.slice.injEq] at hv
        obtain ⟨rfl, _, rfl⟩ := hv
        simp [Builtin.append_, run_underlying Tryz.underlying37, sizeOf, typeInfo, hi, Builtin.lenOf, Builtin.firstCells]
      · simp only [Value.slice.injEq] at hv
        obtain ⟨rfl, _, rfl⟩ := hv
        simp [Builtin.append_, run_underlying Tryz.underlying37, sizeOf, typeInfo, hi, Builtin.lenOf, Builtin.firstCells, hnc, storeCells]
theorem wp_append_cats {o : Oper} {a : Act} {K : Act → World → Prop} {Q : Exit → Act → World → Prop} (w : World) (s x : Operand)
    (ho : o.op = .call { callee := .builtin .append, args := #[s, x], argTypes := #[37, 37] })
    (B : Nat) (v : Value) (n : Nat) (f g : Nat → Int) (hs : a.eval s = v) (hown : OwnCats w B v n f g) (ad : Option Addr) (m c : Nat) (f' g' : Nat → Int) (hx : a.eval x = .slice ad m c) (hc : CatsAt w ad m f' g')
    (hm : n + m ≤ 4194304) (hB : B ≤ w.heap.size)
    (h : ∀ a' c' w', OwnCats w' B (.slice a' (n + m) c') (n + m) (glue n f f') (glue n g g') → w.grownBy w' v.ownBlock → ((Value.slice a' (n + m) c').ownBlock = v.ownBlock ∨ (Value.slice a' (n + m) c').ownBlock = some w.heap.size) → K (a.put o.dst (.slice a' (n + m) c')) w') : o.wp Tryz.prog a w K Q := by
  obtain ⟨a', c', w', hr, h2, h3, h4⟩ := run_append_cats w o.type B v n f g hown ad m c f' g' hc hm hB
  unfold Oper.wp execOp
  simp only [ho, resolve, invoke, builtin, Sem.run_bind, Sem.run_pure, Result.andThen_ok, List.map_toArray, List.map_cons, List.map_nil, hs, hx, hr]
  exact h a' c' w' h2 h3 h4

theorem wpList_append_cats {ops : Array Oper} {rest : List Oper} {o : Oper} {a : Act} {Q : Exit → Act → World → Prop} (w : World) (hgd : o.guard = none) (s x : Operand)
    (ho : o.op = .call { callee := .builtin .append, args := #[s, x], argTypes := #[37, 37] })
    (B : Nat) (v : Value) (n : Nat) (f g : Nat → Int) (hs : a.eval s = v) (hown : OwnCats w B v n f g) (ad : Option Addr) (m c : Nat) (f' g' : Nat → Int) (hx : a.eval x = .slice ad m c) (hc : CatsAt w ad m f' g')
    (hm : n + m ≤ 4194304) (hB : B ≤ w.heap.size)
    (h : ∀ a' c' w', OwnCats w' B (.slice a' (n + m) c') (n + m) (glue n f f') (glue n g g') → w.grownBy w' v.ownBlock → ((Value.slice a' (n + m) c').ownBlock = v.ownBlock ∨ (Value.slice a' (n + m) c').ownBlock = some w.heap.size) → wpList Tryz.prog ops Q rest (a.put o.dst (.slice a' (n + m) c')) w') : wpList Tryz.prog ops Q (o :: rest) a w :=
  wpList_plain hgd fun _ hK => wp_append_cats w s x ho B v n f g hs hown ad m c f' g' hx hc hm hB fun a' c' w' h2 h3 h4 => hK _ _ (h a' c' w' h2 h3 h4)

theorem step_append_cats {ops : Array Oper} {o : Oper} {a : Act} {K : Act → World → Prop} {Q : Exit → Act → World → Prop} {E : Prop} (w : World) (hgd : o.guard = none) (s x : Operand)
    (ho : o.op = .call { callee := .builtin .append, args := #[s, x], argTypes := #[37, 37] })
    (B : Nat) (v : Value) (n : Nat) (f g : Nat → Int) (hs : a.eval s = v) (hown : OwnCats w B v n f g) (ad : Option Addr) (m c : Nat) (f' g' : Nat → Int) (hx : a.eval x = .slice ad m c) (hc : CatsAt w ad m f' g')
    (hm : n + m ≤ 4194304) (hB : B ≤ w.heap.size)
    (h : ∀ a' c' w', OwnCats w' B (.slice a' (n + m) c') (n + m) (glue n f f') (glue n g g') → w.grownBy w' v.ownBlock → ((Value.slice a' (n + m) c').ownBlock = v.ownBlock ∨ (Value.slice a' (n + m) c').ownBlock = some w.heap.size) → K (a.put o.dst (.slice a' (n + m) c')) w') :
    if Region.wanted o (yielded ops a.tmps) = true then Oper.wp Tryz.prog o a w K Q else E := by
  have hw : Region.wanted o (yielded ops a.tmps) = true := by simp [Region.wanted, hgd]
  rw [if_pos hw]
  exact wp_append_cats w s x ho B v n f g hs hown ad m c f' g' hx hc hm hB h

theorem glue_zero (f f' : Nat → Int) : glue 0 f f' = f' := by funext i; simp [glue]
theorem step_append_cats0 {ops : Array Oper} {o : Oper} {a : Act} {K : Act → World → Prop} {Q : Exit → Act → World → Prop} {E : Prop} (w : World) (hgd : o.guard = none) (s x : Operand)
    (ho : o.op = .call { callee := .builtin .append, args := #[s, x], argTypes := #[37, 37] })
    (B : Nat) (v : Value) (f g : Nat → Int) (hs : a.eval s = v) (hown : OwnCats w B v 0 f g) (ad : Option Addr) (m c : Nat) (f' g' : Nat → Int) (hx : a.eval x = .slice ad m c) (hc : CatsAt w ad m f' g')
    (hm : m ≤ 4194304) (hB : B ≤ w.heap.size)
    (h : ∀ a' c' w', OwnCats w' B (.slice a' m c') m f' g' → w.grownBy w' v.ownBlock → ((Value.slice a' m c').ownBlock = v.ownBlock ∨ (Value.slice a' m c').ownBlock = some w.heap.size) → K (a.put o.dst (.slice a' m c')) w') :
    if Region.wanted o (yielded ops a.tmps) = true then Oper.wp Tryz.prog o a w K Q else E := by
  refine step_append_cats w hgd s x ho B v 0 f g hs hown ad m c f' g' hx hc (by omega) hB ?_
  rw [glue_zero, glue_zero, Nat.zero_add]
  exact h
end Go.Proofs.YtjceaajnemgheaaGreatDoor
