/- Texts put together. -/
import Derived.Test.YtaaeeaknjlammaaGreatDoorZL
import Derived.Test.YtaaeeaknjlammaaGreatDoorVS
import Derived.Test.YtaaeeaknjlammaaGreatDoorGA
import Derived.Lib.AppendIntMem
import Derived.Test.YtaaeeaknjlammaaGreatDoorZB
import Derived.Test.YtaaeeaknjlammaaGreatDoorZE
import Derived.Deep.RegionLaw
/- decimal of the program; the writing of a strings.Builder. -/
namespace Go.Proofs.YtaaeeaknjlammaaGreatDoor
open Go.RowKit Go.Deep Go.Maps

theorem decL_lib (n : Nat) : Lib.decDigits n = decL n := by
  induction n using Nat.strongRecOn with
  | _ n ih =>
    by_cases h : n < 10
    · rw [decL_small h, Lib.decDigits, dif_pos h]
    · rw [decL_big h, Lib.decDigits, dif_neg h, ih (n / 10) (by omega)]

/-- the table that strconv reads -/
def Tab (w : World) : Prop := Lib.TabIs Tryz.prog w "internal/strconv.uint64pow10" .u64 Lib.pow10Tab
theorem Tryz.tabSome : (Tryz.prog.globalNamed "internal/strconv.uint64pow10").isSome = true := by kernel_rfl
theorem Tryz.tabNamed : ∃ g, Tryz.prog.globalNamed "internal/strconv.uint64pow10" = some g := Option.isSome_iff_exists.1 Tryz.tabSome
theorem Tab.below {w w' : World} (h : Tab w) (hb : Below w.heap.size w w') : Tab w' := by
  obtain ⟨g, hg⟩ := Tryz.tabNamed
  unfold Tab Lib.TabIs at *
  refine var?_below hb hg ?_ h
  rcases Nat.lt_or_ge g w.heap.size with h' | h'
  · exact h'
  · exfalso
    simp [World.var?, hg, Array.getElem?_eq_none h'] at h

set_option maxRecDepth 100000 in
theorem decimal_any (x : Int) (w : World) (h0 : 0 ≤ x) (h1 : x ≤ 10000000000) (ht : Tab w) :
    Calls Tryz.prog 59 #[.int .i64 x] w fun e w' => e = .returned (.string ⟨(decL x.toNat).toArray⟩) ∧ Below w.heap.size w w' := by
  go_enter Tryz.func59, Tryz.ntmps59
  go_wp2_with fail
  refine (Tryz.strconv_FormatInt_10 x (by omega) (by omega) w ht).mono ?_
  rintro e w' ⟨rfl, k, os, rfl⟩
  have e1 : Lib.itoa x = decL x.toNat := by
    unfold Lib.itoa
    rw [if_neg (by omega), decL_lib]
  have hb : Below w.heap.size w (Sort.grow (w.drewN k) os) := Lib.below_grow _ w (Nat.le_refl _) k os
  rw [e1]
  generalize Sort.grow (w.drewN k) os = W at *
  go_wp2
  go_ret
  exact ⟨rfl, hb⟩

theorem Tryz.size78 : (Tryz.prog.info? 78).map (·.size) = some 2 := by kernel_rfl
theorem Tryz.lies78 : liesAt Tryz.prog Tryz.prog.depth 78 (2 / Tryz.prog.cellsOf 78) 0 78 1 = true := by kernel_rfl
theorem Tryz.info5 : (Tryz.prog.info? 5).map (fun i => (i.zero, i.size, i.bytes)) = some (some (.int .u8 0), 1, 1) := by kernel_rfl

/-- every block but b that holds no bytes is as it was -/
def Keeps5 (b : Nat) (w w' : World) : Prop := ∀ (P : Nat) (cs : Array Value) (T : Nat), T ≠ 5 → P ≠ b → w.heap[P]? = some (.cells cs T (0, 0)) → w'.heap[P]? = some (.cells cs T (0, 0))

set_option maxRecDepth 100000 in
set_option maxHeartbeats 1000000 in
theorem copyCheck_T (T : Nat) (hT : liesAt Tryz.prog Tryz.prog.depth T (2 / Tryz.prog.cellsOf T) 0 78 1 = true) (B b : Nat) (bs : List Value) (w : World) (h : Lib.IsBuilder T 5 B b bs w) :
    Calls Tryz.prog 78 #[.pointer (some ⟨b, 0, none⟩)] w fun e w' => e = .returned (.tuple #[]) ∧ Lib.BuilderAt T 5 B b (.pointer (some ⟨b, 0, none⟩)) bs w' ∧ Below B w w' ∧ Keeps5 b w w' := by
  obtain ⟨j, hj, hjs⟩ := Option.map_eq_some_iff.1 Tryz.size78
  rcases h with h | h
  · have c0 := h.cell0
    have fz := h.frozen0
    have sh := h.shape
    have k1 := Lib.run_to_unsafe (P := Tryz.prog) w (e := T) (cells := 2) ⟨b, 0, none⟩ Tryz.underlying75 Tryz.underlying144 hj (by rw [hjs]; decide) sh (by simp)
    have k2 := Lib.run_from_unsafe (P := Tryz.prog) w (e := T) (cells := 2) ⟨b, 0, none⟩ Tryz.underlying144 Tryz.underlying75 hj sh hT
    have U := h.used (.pointer (some ⟨b, 0, none⟩))
    have hb : Below B w (w.setCell ⟨b, 0, none⟩ (.pointer (some ⟨b, 0, none⟩))) := (Below.refl B w).setCell (p := ⟨b, 0, none⟩) h.1 _
    have kp : Keeps5 b w (w.setCell ⟨b, 0, none⟩ (.pointer (some ⟨b, 0, none⟩))) := fun P cs T _ hP hh => (blk_setCell_other _ _ _ _ (by dsimp only; exact hP)).trans hh
    clear h hj hjs sh
    go_enter Tryz.func78, Tryz.ntmps78
    go_wp2
    rw [run_callFunc_extern Tryz.func90 (by kernel_rfl) (by kernel_rfl) (by kernel_rfl) (e := Extern.AbiNoEscape.same) (by kernel_rfl), Lib.run_noEscape]
    simp only [Result.andThen]
    rw [Oper.upon_value]
    go_wp2
    exact bodyPost_end (v := .tuple #[]) (by simp [results, Tryz.results78, go_sem]) rfl ⟨rfl, U, hb, kp⟩
  · have c0 := h.cell0
    have k1 := Lib.run_neq_ptr_same (P := Tryz.prog) w ⟨b, 0, none⟩ Tryz.underlying75 hj
    have hb := Below.refl B w
    clear hj hjs
    go_enter Tryz.func78, Tryz.ntmps78
    go_wp2
    exact bodyPost_end (v := .tuple #[]) (by simp [results, Tryz.results78, go_sem]) rfl ⟨rfl, h, hb, fun _ _ _ _ _ hh => hh⟩

set_option maxRecDepth 100000 in
set_option maxHeartbeats 1000000 in
theorem writeString_T (T : Nat) (hT : liesAt Tryz.prog Tryz.prog.depth T (2 / Tryz.prog.cellsOf T) 0 78 1 = true) (hT5 : T ≠ 5) (B b : Nat) (bs : List Value) (s : ByteArray) (w : World) (h : Lib.IsBuilder T 5 B b bs w) (hlen : bs.length + s.size ≤ 140737488355328) (hBw : B ≤ w.heap.size) :
    Calls Tryz.prog 57 #[.pointer (some ⟨b, 0, none⟩), .string s] w fun e w' => e = .returned (.tuple #[.int .i64 s.size, .nilIface]) ∧ Lib.IsBuilder T 5 B b (bs ++ Lib.strCells s) w' ∧ Below B w w' ∧ Keeps5 b w w' := by
  obtain ⟨i0, hi, hz0, hz1, hz2⟩ := info_parts Tryz.info5
  go_enter Tryz.func57, Tryz.ntmps57
  go_wp2_with fail
  refine (copyCheck_T T hT B b bs w h).mono ?_
  rintro e w1 ⟨rfl, h1, hb1, kp1⟩
  obtain ⟨hB, v, hbk, hown, hne⟩ := h1
  obtain ⟨ua, uc, rfl⟩ := ownsRow_shape hown
  have c0 : w1.cell? ⟨b, 0, none⟩ = some (.pointer (some ⟨b, 0, none⟩)) := by rw [Lib.cell_of_heap hbk]; rfl
  have c1 : w1.cell? ⟨b, 1, none⟩ = some (.slice ua bs.length uc) := by rw [Lib.cell_of_heap hbk]; rfl
  have hw1 : B ≤ w1.heap.size := Nat.le_trans hBw hb1.size
  have HO : Hid (w1.ownsRow B 5 1 (.slice ua bs.length uc) bs.length bs) := hown
  have hm1 : bs.length + s.size ≤ maxLen := by unfold maxLen; omega
  clear hown h
  go_wp2_with (at_builtin; (refine Lib.wpList_append_own_string _ rfl _ _ 76 9 rfl B 5 i0 Tryz.underlying76 Tryz.underlying9 hi hz0 hz1 hz2 _ _ _ rfl HO.out s rfl hm1 hlen hw1 ?_; intro v' w2 hown' hgrow _; obtain ⟨va, vc, rfl⟩ := ownsRow_shape hown'; have hbk2 := (hgrow.block b (Array.getElem?_eq_some_iff.1 hbk).1 (fun e => hne e.symm)).trans hbk; have q0 : w2.cell? ⟨b, 0, none⟩ = some (.pointer (some ⟨b, 0, none⟩)) := (by rw [Lib.cell_of_heap hbk2]; rfl); have q1 : w2.cell? ⟨b, 1, none⟩ = some (.slice ua bs.length uc) := (by rw [Lib.cell_of_heap hbk2]; rfl); have qf := Lib.frozen_of_heap hbk2 1))
  have e1 : bs.length + s.size = (bs ++ Lib.strCells s).length := by rw [List.length_append, Lib.strCells_length]
  have hP : Lib.IsBuilder T 5 B b (bs ++ Lib.strCells s) (w2.setCell ⟨b, 1, none⟩ (.slice va (bs.length + s.size) vc)) := Or.inr (Lib.BuilderAt.put hB hbk2 (by rw [← e1]; exact hown') hT5)
  have hb2 : Below B w w2 := hb1.grown hgrow hw1 (fun k hk => (World.ownsRow.lt HO.out k hk).1)
  exact bodyPost_ret (v := .tuple #[.int .i64 s.size, .nilIface]) (by simp [results, Tryz.results57, go_sem]) rfl ⟨rfl, hP, hb2.setCell hB _, fun P cs T hT hPb hh => (blk_setCell_other _ _ _ _ (by dsimp only; exact hPb)).trans ((hgrow.block P (Array.getElem?_eq_some_iff.1 (kp1 P cs T hT hPb hh)).1 (fun e => Lib.ownBlock_ne HO.out (kp1 P cs T hT hPb hh) hT e.symm)).trans (kp1 P cs T hT hPb hh))⟩
set_option maxRecDepth 100000 in
theorem writeString_any (B b : Nat) (bs : List Value) (s : ByteArray) (w : World) (h : Lib.IsBuilder 78 5 B b bs w) (hlen : bs.length + s.size ≤ 140737488355328) (hBw : B ≤ w.heap.size) :
    Calls Tryz.prog 57 #[.pointer (some ⟨b, 0, none⟩), .string s] w fun e w' => e = .returned (.tuple #[.int .i64 s.size, .nilIface]) ∧ Lib.IsBuilder 78 5 B b (bs ++ Lib.strCells s) w' ∧ Below B w w' ∧ Keeps5 b w w' := writeString_T 78 Tryz.lies78 (by decide) B b bs s w h hlen hBw
theorem Tryz.lies80 : liesAt Tryz.prog Tryz.prog.depth 80 (2 / Tryz.prog.cellsOf 80) 0 78 1 = true := by kernel_rfl
end Go.Proofs.YtaaeeaknjlammaaGreatDoor

/- A page is a builder: what it holds, as a text. -/
namespace Go.Proofs.YtaaeeaknjlammaaGreatDoor
open Go Go.RowKit Go.Deep Go.Maps

set_option maxHeartbeats 2000000 in
set_option maxRecDepth 100000 in
theorem bString_T (T B b : Nat) (l : List UInt8) (w : World) (h : Lib.IsBuilder T 5 B b (Lib.byteCells l) w) (h0 : l ≠ []) :
    Calls Tryz.prog 38 #[.pointer (some ⟨b, 0, none⟩)] w fun e w' => e = .returned (.string ⟨l.toArray⟩) ∧ Below B w w' := by
  obtain ⟨p, hB, v, hbk, hown, hne⟩ : ∃ p, Lib.BuilderAt T 5 B b p (Lib.byteCells l) w := by
    rcases h with h | h
    · exact ⟨_, h⟩
    · exact ⟨_, h⟩
  have hl0 : l.length ≠ 0 := by simpa using h0
  rw [Lib.byteCells_length] at hown
  obtain ⟨g, cap, cur, rfl, hbg, hg, hnc, hcm, hcs, htake⟩ : ∃ g cap cur, v = .slice (some ⟨g, 0, none⟩) l.length cap ∧ B ≤ g ∧ w.heap[g]? = some (.cells cur 5 (0, 0)) ∧ l.length ≤ cap ∧ cap ≤ maxLen ∧ cur.size = cap * 1 ∧ cur.toList.take (l.length * 1) = Lib.byteCells l := by
    rcases hown.2 with ⟨_, hz⟩ | ⟨g, cap, cur, hv, r⟩
    · exact absurd hz hl0
    · exact ⟨g, cap, cur, hv, r⟩
  have c1 : w.drew.cell? ⟨b, 1, none⟩ = some (.slice (some ⟨g, 0, none⟩) l.length cap) := by
    have : w.drew.heap[b]? = some (.cells #[p, .slice (some ⟨g, 0, none⟩) l.length cap] T (0, 0)) := hbk
    rw [Lib.cell_of_heap this]; rfl
  have hSD : (Builtin.unsafeSliceData_ #[76] 120 #[.slice (some ⟨g, 0, none⟩) l.length cap]).run Tryz.prog w.drew = .ok (.pointer (some ⟨g, 0, none⟩)) w.drew :=
    Lib.run_unsafeSliceData_row _ _ _ _ _ _ (by omega)
  have hUS : (Builtin.unsafeString_ #[120, 3] 9 #[.pointer (some ⟨g, 0, none⟩), .int .i64 l.length]).run Tryz.prog w.drew = .ok (.string ⟨l.toArray⟩) (w.drew.freeze ⟨g, 0, none⟩ l.length) := by
    refine Lib.run_unsafeString_row w.drew 120 3 9 5 Tryz.underlying120 (by kernel_rfl) g cur.size (by have hg' : w.drew.heap[g]? = some (.cells cur 5 (0, 0)) := hg; simp [World.shape?, hg']) l h0 (by omega) (by unfold maxLen at hcm; omega) ?_
    intro j x hx
    have := hown.cells (g := g) rfl j (.int .u8 x.toNat) (by simp [Lib.byteCells, hx])
    exact this
  have mixed : Tryz.prog.follows .mixedOrders = true := by kernel_rfl
  go_enter Tryz.func38, Tryz.ntmps38
  go_wp2
  go_region_o
  all_goals (go_wp2; go_ret; exact ⟨rfl, Lib.below_freeze (Below.drew (Below.refl B w)) (p := ⟨g, 0, none⟩) hbg _⟩)
end Go.Proofs.YtaaeeaknjlammaaGreatDoor

/- LabelText of the program. -/
namespace Go.Proofs.YtaaeeaknjlammaaGreatDoor
open Go.RowKit Go.Deep Go.Maps

theorem isBuilder_below {T e B b : Nat} {bs : List Value} {w w' : World} (h : Lib.IsBuilder T e B b bs w) (hb : Below w.heap.size w w') : Lib.IsBuilder T e B b bs w' := by
  have aux : ∀ p, Lib.BuilderAt T e B b p bs w → Lib.BuilderAt T e B b p bs w' := by
    rintro p ⟨h1, v, hbk, ho, hne⟩
    refine ⟨h1, v, (hb.block b (Array.getElem?_eq_some_iff.1 hbk).1).trans hbk, ⟨ho.1, ?_⟩, hne⟩
    rcases ho.2 with h2 | ⟨g, cap, cur, hv, hbg, hg, hr⟩
    · exact .inl h2
    · exact .inr ⟨g, cap, cur, hv, hbg, (hb.block g (Array.getElem?_eq_some_iff.1 hg).1).trans hg, hr⟩
  rcases h with h | h
  · exact .inl (aux _ h)
  · exact .inr (aux _ h)
theorem isBuilder_lt {T e B b : Nat} {bs : List Value} {w : World} (h : Lib.IsBuilder T e B b bs w) : b < w.heap.size := by
  rcases h with h | h <;> exact h.lt
theorem str_byte (l : List UInt8) : Lib.strCells ⟨l.toArray⟩ = Lib.byteCells l := rfl
theorem byte_app (a b : List UInt8) : Lib.byteCells a ++ Lib.byteCells b = Lib.byteCells (a ++ b) := by simp [Lib.byteCells]
theorem size_of (l : List UInt8) : (⟨l.toArray⟩ : ByteArray).size = l.length := by simp [ByteArray.size]

set_option maxRecDepth 100000 in
set_option maxHeartbeats 4000000 in
theorem implText_any (base : Int) (a : Option Addr) (n cap : Nat) (f g : Nat → Int) (w : World) (hn : n ≤ maxLen) (hc : CatsAt w a n f g) (ht : Tab w) :
    Calls Tryz.prog 32 #[.agg #[.int .i64 base, .slice a n cap]] w fun e w' => e = .returned (.string ⟨(ltext base n f g).toArray⟩) ∧ Below w.heap.size w w' := by
  have L0 := (Below.refl _ w).alloc (Nat.le_refl _) (.cells #[.int .i64 base, .slice a n cap] 39)
  have A0 := Blk.new w (.cells #[.int .i64 base, .slice a n cap] 39)
  obtain ⟨x1, x2⟩ := A0.two
  go_enter Tryz.func32, Tryz.ntmps32
  go_wp2_with fail
  refine (implOk_any _ _ _ _ f g _ hn (hc.below L0)).mono ?_
  rintro e w1 ⟨rfl, hb1⟩
  have L1 : Below w.heap.size w w1 := L0.trans (hb1.mono L0.size)
  have A1 := A0.below hb1
  clear x1 x2 A0 L0 hb1
  cases h : labOk base n f g with
  | false =>
    go_wp2
    go_ret
    exact ⟨by simp [ltext, h], L1⟩
  | true =>
    obtain ⟨h1, h2, h3⟩ := labOk_out h
    have h1' := inB_iff.1 h1
    have hf : ∀ i, i < n → 0 ≤ f i ∧ f i ≤ 9999 := fun i hi => by have := catOk_iff.1 (h3 i hi); omega
    have hg : ∀ i, i < n → 0 ≤ g i ∧ g i ≤ 9999 := fun i hi => by have := catOk_iff.1 (h3 i hi); omega
    have HE : Hid (ltext base n f g = txt base (catsTo f g n)) := (by simp [ltext, h] : ltext base n f g = txt base (catsTo f g n))
    clear h3 h1 h
    have I2 := Lib.fresh_isBuilder 78 5 w1
    have K2 := (Below.refl _ w1).alloc (Nat.le_refl _) (.cells #[.pointer none, .slice none 0 0] 78)
    have A2 := A1.below K2
    have L2 : Below w.heap.size w (w1.alloc (.cells #[.pointer none, .slice none 0 0] 78)) := L1.trans (K2.mono L1.size)
    have sA : w.heap.size < w1.heap.size := A1.lt
    clear A1 K2 L1
    obtain ⟨x1, x2⟩ := A2.two
    go_wp2_with fail
    generalize w1.alloc (.cells #[.pointer none, .slice none 0 0] 78) = V at *
    refine (decimal_any base V (by omega) (by omega) (ht.below L2)).mono ?_
    rintro e w3 ⟨rfl, hb3⟩
    have A3 := A2.below hb3
    have I3 := isBuilder_below I2 hb3
    have L3 : Below w.heap.size w w3 := L2.trans (hb3.mono L2.size)
    have ld := decL_len base.toNat
    clear x1 x2 A2 I2 L2 hb3
    go_wp2_with fail
    refine (writeString_any w1.heap.size w1.heap.size [] _ w3 I3 (by rw [size_of]; simp; omega) (Nat.le_of_lt (isBuilder_lt I3))).mono ?_
    rintro e w4 ⟨rfl, I4, hb4, kp4⟩
    have A4 : Blk w4 w.heap.size (.cells #[.int .i64 base, .slice a n cap] 39) := kp4 _ _ _ (by decide) (by omega) A3
    have L4 : Below w.heap.size w w4 := L3.trans (hb4.mono (by omega))
    have J4 : Lib.IsBuilder 78 5 w1.heap.size w1.heap.size (Lib.byteCells (txt base (catsTo f g 0))) w4 := by
      have e0 : txt base (catsTo f g 0) = decL base.toNat := by simp [txt, catsTo]
      rw [e0]
      exact I4
    clear A3 I3 L3 I4 hb4 kp4
    obtain ⟨x1, x2⟩ := A4.two
    go_wp2_with fail
    go_loopw [16] (fun i wr => ∃ k : Nat, k ≤ n ∧ i = .int .i64 k ∧ Lib.IsBuilder 78 5 w1.heap.size w1.heap.size (Lib.byteCells (txt base (catsTo f g k))) wr ∧ Below w.heap.size w wr ∧ w1.heap.size < wr.heap.size) (fun i _ => n - (intOf i).toNat)
    case atStart => exact ⟨0, Nat.zero_le _, rfl, J4, L4, isBuilder_lt J4⟩
    case round =>
      obtain ⟨k, hk, rfl, I, Lr, sr⟩ := hrel
      clear J4 L4 A4 x1 x2
      by_cases hlt : k < n
      · have hki : (k : Int) < (n : Int) := by omega
        obtain ⟨b, off, rfl, hbl, hcc⟩ := (hc.below Lr) (by omega)
        obtain ⟨c1, c2⟩ := hcc k hlt
        have hf0 := hf k hlt
        have hg0 := hg k hlt
        have hD1 := decL_len (f k).toNat
        have hD2 := decL_len (g k).toNat
        have lk := txt_len base f g k (by omega) (fun i hi => by have := hf i (by omega); have := hg i (by omega); omega)
        have HT : Hid (txt base (catsTo f g (k + 1)) = txt base (catsTo f g k) ++ 44 :: (decL (f k).toNat ++ 58 :: decL (g k).toNat)) := by
          show _ = _
          rw [catsTo_succ, txt_snoc]; rfl
        have tr : Tab wr := ht.below Lr
        have P1 : Hid (∀ v : World, Below wr.heap.size wr v → Calls Tryz.prog 59 #[.int .i64 (f k)] v fun e w' => e = .returned (.string ⟨(decL (f k).toNat).toArray⟩) ∧ Below v.heap.size v w') := fun v hv => decimal_any (f k) v hf0.1 (by omega) (tr.below hv)
        have P2 : Hid (∀ v : World, Below wr.heap.size wr v → Calls Tryz.prog 59 #[.int .i64 (g k)] v fun e w' => e = .returned (.string ⟨(decL (g k).toNat).toArray⟩) ∧ Below v.heap.size v w') := fun v hv => decimal_any (g k) v hg0.1 (by omega) (tr.below hv)
        have KC := (Below.refl _ wr).alloc (Nat.le_refl _) (.cells #[.int .i64 (f k), .int .i64 (g k)] 100)
        have Cd : Blk (wr.alloc (.cells #[.int .i64 (f k), .int .i64 (g k)] 100)).drew wr.heap.size (.cells #[.int .i64 (f k), .int .i64 (g k)] 100) := Blk.new wr _
        have Id : Lib.IsBuilder 78 5 w1.heap.size w1.heap.size (Lib.byteCells (txt base (catsTo f g k))) (wr.alloc (.cells #[.int .i64 (f k), .int .i64 (g k)] 100)).drew := isBuilder_below I KC.drew
        have Kd : Below wr.heap.size wr (wr.alloc (.cells #[.int .i64 (f k), .int .i64 (g k)] 100)).drew := KC.drew
        clear hcc hc hf hg HE tr KC
        generalize hTe : txt base (catsTo f g k) = T at *
        generalize hE1 : decL (f k).toNat = D1 at *
        generalize hE2 : decL (g k).toNat = D2 at *
        generalize f k = fk at *
        generalize g k = gk at *
        have r1 : ¬ 9223372036854775807 < 1 + D1.length := by omega
        have r2 : ¬ 9223372036854775807 < 1 + D1.length + 1 := by omega
        have r3 : ¬ 9223372036854775807 < 1 + D1.length + 1 + D2.length := by omega
        have r4 : (Lib.byteCells T).length + (1 + D1.length + 1 + D2.length) ≤ 140737488355328 := by rw [Lib.byteCells_length]; omega
        clear hTe hE1 hE2 hD1 hD2 lk hf0 hg0
        have es : ((((⟨#[44]⟩ : ByteArray) ++ ⟨D1.toArray⟩) ++ ⟨#[58]⟩) ++ ⟨D2.toArray⟩) = ⟨(44 :: (D1 ++ 58 :: D2)).toArray⟩ := by
          have ea : (⟨#[44]⟩ : ByteArray) = ⟨[44].toArray⟩ := rfl
          have eb : (⟨#[58]⟩ : ByteArray) = ⟨[58].toArray⟩ := rfl
          rw [ea, eb, bytes_app, bytes_app, bytes_app]
          simp
        have HL : Hid ((Lib.byteCells T).length + ((((⟨#[44]⟩ : ByteArray) ++ ⟨D1.toArray⟩) ++ ⟨#[58]⟩) ++ ⟨D2.toArray⟩).size ≤ 140737488355328) := by
          show _ ≤ _
          rw [es, size_of]
          simp only [List.length_cons, List.length_append]
          omega
        have HES : Hid (((((⟨#[44]⟩ : ByteArray) ++ ⟨D1.toArray⟩) ++ ⟨#[58]⟩) ++ ⟨D2.toArray⟩) = ⟨(44 :: (D1 ++ 58 :: D2)).toArray⟩) := es
        clear es r4
        go_wp2_with fail
        go_region_held3 (fun w' => w'.cell? ⟨wr.heap.size, 0, none⟩ = some (.int .i64 fk) ∧ w'.cell? ⟨wr.heap.size, 1, none⟩ = some (.int .i64 gk)) (go_keep)
          (first
            | (go_at_call 57; have hq := hb8; refine (writeString_any w1.heap.size w1.heap.size _ _ _ I8 HL.out z8).mono ?_; rintro e w9 ⟨rfl, I9, hb9, kp9⟩; obtain ⟨t1, t2⟩ := Blk.two (kp9 _ _ _ (by decide) (by omega) C8))
            | (go_at_call 59; have hq := hb7; refine (P2.out _ K7).mono ?_; rintro e w8 ⟨rfl, hb8⟩; have C8 := C7.below hb8; have I8 := isBuilder_below I7 hb8; have z8 := Nat.le_of_lt (isBuilder_lt I8); obtain ⟨v1, v2⟩ := C8.two)
            | (go_at_call 59; refine (P1.out _ Kd).mono ?_; rintro e w7 ⟨rfl, hb7⟩; have C7 := Cd.below hb7; have K7 : Below wr.heap.size wr w7 := Kd.trans (hb7.mono Kd.size); have I7 := isBuilder_below Id hb7; obtain ⟨y1, y2⟩ := C7.two))
        have L9 : Below w.heap.size w w9 := (Lr.trans ((K7.trans (hb8.mono K7.size)).mono Lr.size)).trans (hb9.mono (by omega))
        have I9' : Lib.IsBuilder 78 5 w1.heap.size w1.heap.size (Lib.byteCells (txt base (catsTo f g (k + 1)))) w9 := by
          rw [HT.out, ← byte_app]
          rw [HES.out] at I9
          exact I9
        go_wp2
        go_roundw
        case rel => exact ⟨k + 1, by omega, by go_num, I9', L9, isBuilder_lt I9'⟩
        case measure => simp [intOf]; omega
      · have hki : ¬ (k : Int) < (n : Int) := by omega
        obtain rfl : k = n := by omega
        go_wp2_with fail
        refine (Tryz.Builder_String_any w1.heap.size w1.heap.size _ _ I (by omega)).mono ?_
        rintro e w6 ⟨rfl, hb6⟩
        have L6 : Below w.heap.size w w6 := Lr.trans (hb6.mono (by omega))
        clear I hb6
        go_wp2
        go_ret
        exact ⟨by rw [HE.out]; rfl, L6⟩
end Go.Proofs.YtaaeeaknjlammaaGreatDoor

/- Lists of texts that a call owns; decimals of the program; a call within a region that draws its order. -/
namespace Go.Proofs.YtaaeeaknjlammaaGreatDoor
open Go Go.RowKit Go.Deep Go.Maps
open Go.WideShapes (add_plain)

def scells (l : List ByteArray) : List Value := l.map Value.string
def OwnS (w : World) (B : Nat) (v : Value) (l : List ByteArray) : Prop := w.ownsRow B 9 1 v l.length (scells l)
theorem OwnS.below {w w' : World} {B : Nat} {v : Value} {l : List ByteArray} (h : OwnS w B v l) (hb : Below w.heap.size w w') : OwnS w' B v l := by
  refine ⟨h.1, ?_⟩
  rcases h.2 with hn | ⟨g, cap, cur, hv, hbg, hg, rest⟩
  · exact .inl hn
  · exact .inr ⟨g, cap, cur, hv, hbg, (hb.block g (Array.getElem?_eq_some_iff.1 hg).1).trans hg, rest⟩
theorem OwnS.alloc {w : World} {B : Nat} {v : Value} {l : List ByteArray} (h : OwnS w B v l) (o : Obj) : OwnS (w.alloc o) B v l := World.ownsRow.alloc h o
theorem one_str {w : World} (x : ByteArray) : LiesC (w.alloc (.cells #[.string x] 9)) (some ⟨w.heap.size, 0, none⟩) 1 [.string x] := fun _ =>
  ⟨w.heap.size, 0, rfl, by simp, fun j u hu => by
    cases j with
    | zero => simp at hu; subst hu; simp
    | succ j => simp at hu⟩
theorem three_str {w : World} (x y z : ByteArray) : LiesC (w.alloc (.cells #[.string x, .string y, .string z] 9)) (some ⟨w.heap.size, 0, none⟩) 3 [.string x, .string y, .string z] := fun _ =>
  ⟨w.heap.size, 0, rfl, by simp, fun j u hu => by
    match j with
    | 0 => simp at hu; subst hu; simp
    | 1 => simp at hu; subst hu; simp
    | 2 => simp at hu; subst hu; simp
    | j + 3 => simp at hu⟩
theorem wpList_append_str {ops : Array Oper} {rest : List Oper} {o : Oper} {a : Act} {Q : Exit → Act → World → Prop} (w : World) (hgd : o.guard = none) (s x : Operand)
    (ho : o.op = .call { callee := .builtin .append, args := #[s, x], argTypes := #[58, 58] })
    (B : Nat) (v : Value) (l : List ByteArray) (hs : a.eval s = v) (hown : OwnS w B v l) (ad : Option Addr) (c : Nat) (r : ByteArray) (hx : a.eval x = .slice ad 1 c) (hc : LiesC w ad 1 [.string r])
    (hm : l.length ≤ 2000000) (hB : B ≤ w.heap.size)
    (h : ∀ g c' w', OwnS w' B (.slice (some ⟨g, 0, none⟩) (l ++ [r]).length c') (l ++ [r]) → w.grownBy w' v.ownBlock → wpList Tryz.prog ops Q rest (a.put o.dst (.slice (some ⟨g, 0, none⟩) (l ++ [r]).length c')) w') : wpList Tryz.prog ops Q (o :: rest) a w := by
  refine wpList_plain hgd fun _ hK => wp_append_gen Tryz.underlying58 Tryz.info9 rfl (by omega) w s x ho B v l.length _ hs hown ad 1 c [.string r] hx (by simp) hc (fun u hu => by simp at hu; subst hu; rfl) (by omega) (by omega) hB fun a' c' w' h2 h3 _ => hK _ _ ?_
  have e1 : scells l ++ [Value.string r] = scells (l ++ [r]) := by simp [scells]
  have e2 : l.length + 1 = (l ++ [r]).length := by simp
  rw [e1] at h2
  obtain ⟨g, cap, hv, _, _⟩ := World.ownsRow.form h2 (by omega)
  simp only [Value.slice.injEq] at hv
  obtain ⟨rfl, _, _⟩ := hv
  rw [e2] at h2 ⊢
  exact h g c' w' h2 h3
theorem step_append3 {ops : Array Oper} {o : Oper} {a : Act} {w : World} {K : Act → World → Prop} {Q : Exit → Act → World → Prop} {E : Prop} (hgd : o.guard = none) (s x : Operand)
    (ho : o.op = .call { callee := .builtin .append, args := #[s, x], argTypes := #[58, 58] })
    (B : Nat) (v : Value) (l : List ByteArray) (hs : a.eval s = v) (hown : OwnS w B v l) (ad : Option Addr) (c : Nat) (r1 r2 r3 : ByteArray) (hx : a.eval x = .slice ad 3 c) (hc : LiesC w ad 3 [.string r1, .string r2, .string r3])
    (hm : l.length ≤ 2000000) (hB : B ≤ w.heap.size)
    (h : ∀ g c' w', OwnS w' B (.slice (some ⟨g, 0, none⟩) (l ++ [r1, r2, r3]).length c') (l ++ [r1, r2, r3]) → w.grownBy w' v.ownBlock → K (a.put o.dst (.slice (some ⟨g, 0, none⟩) (l ++ [r1, r2, r3]).length c')) w') :
    if Region.wanted o (yielded ops a.tmps) = true then Oper.wp Tryz.prog o a w K Q else E := by
  have hw : Region.wanted o (yielded ops a.tmps) = true := by simp [Region.wanted, hgd]
  rw [if_pos hw]
  refine wp_append_gen Tryz.underlying58 Tryz.info9 rfl (by omega) w s x ho B v l.length _ hs hown ad 3 c [.string r1, .string r2, .string r3] hx (by simp) hc (fun u hu => by simp at hu; rcases hu with rfl | rfl | rfl <;> rfl) (by omega) (by omega) hB fun a' c' w' h2 h3 _ => ?_
  have e1 : scells l ++ [Value.string r1, Value.string r2, Value.string r3] = scells (l ++ [r1, r2, r3]) := by simp [scells]
  have e2 : l.length + 3 = (l ++ [r1, r2, r3]).length := by simp
  rw [e1] at h2
  obtain ⟨g, cap, hv, _, _⟩ := World.ownsRow.form h2 (by omega)
  simp only [Value.slice.injEq] at hv
  obtain ⟨rfl, _, _⟩ := hv
  rw [e2] at h2 ⊢
  exact h g c' w' h2 h3

/-- numbers lie there -/
def decB (x : Int) : ByteArray := ⟨(decL x.toNat).toArray⟩
theorem dec_any (x : Int) (w : World) (h0 : 0 ≤ x) (h1 : x ≤ 10000000000) (ht : Tab w) : Calls Tryz.prog 59 #[.int .i64 x] w fun e w' => e = .returned (.string (decB x)) ∧ Below w.heap.size w w' := decimal_any x w h0 h1 ht

set_option maxRecDepth 100000 in
set_option maxHeartbeats 1000000 in
theorem decimals_any (b n cap : Nat) (f : Nat → Int) (w : World) (hn : n ≤ 1000) (hb : b < w.heap.size) (hc : ∀ i, i < n → w.cell? ⟨b, i, none⟩ = some (.int .i64 (f i))) (hr : ∀ i, i < n → 0 ≤ f i ∧ f i ≤ 10000000000) (ht : Tab w) :
    Calls Tryz.prog 61 #[.slice (some ⟨b, 0, none⟩) n cap] w fun e w' => ∃ a c, e = .returned (.slice a n c) ∧ OwnS w' w.heap.size (.slice a n c) ((List.range n).map fun i => decB (f i)) ∧ Below w.heap.size w w' := by
  have HC := hid hc
  have HR := hid hr
  have HT := hid ht
  clear hc hr ht
  go_enter Tryz.func61, Tryz.ntmps61
  go_wp2
  go_loopw [3, 8] (fun v i wr => ∃ k : Nat, k ≤ n ∧ i = .int .i64 k ∧ (∃ a c, v = .slice a k c) ∧ OwnS wr w.heap.size v ((List.range k).map fun i => decB (f i)) ∧ Below w.heap.size w wr) (fun _ i _ => n - (intOf i).toNat)
  case atStart => exact ⟨0, Nat.zero_le _, rfl, ⟨_, _, rfl⟩, World.ownsRow_nil _ _ _ _, Below.refl _ _⟩
  case round =>
    obtain ⟨k, hk, rfl, ⟨a, c, rfl⟩, hO, hB⟩ := hrel
    have OO := hid hO
    clear hO
    by_cases hlt : k < n
    · have c1 : wr.cell? ⟨b, k, none⟩ = some (.int .i64 (f k)) := (hB.cell (p := ⟨b, k, none⟩) hb).trans (HC.out k hlt)
      obtain ⟨r0, r1⟩ := HR.out k hlt
      have D := hid (dec_any (f k) wr r0 r1 (HT.out.below hB))
      have i1 : (k : Int) < (n : Int) := by omega
      have EX : Hid (((List.range k).map fun i => decB (f i)) ++ [decB (f k)] = (List.range (k + 1)).map fun i => decB (f i)) := by show _ = _; rw [List.range_succ, List.map_append]; rfl
      have lm : ((List.range k).map fun i => decB (f i)).length = k := by simp
      generalize ((List.range k).map fun i => decB (f i)) = L at *
      generalize decB (f k) = X at *
      have lm2 : L.length ≤ 2000000 := by omega
      go_wp2_with (first
        | (go_at_call 59; refine D.out.mono ?_; rintro e w3 ⟨rfl, h3⟩; have HO3 := hid ((OO.out.below h3).alloc (.cells #[.string X] 9)); have HL3 := hid (one_str (w := w3) X); have sz3 := hid (Nat.le_trans (then_ hB h3).size (show w3.heap.size ≤ (w3.alloc (.cells #[.string X] 9)).heap.size by rw [World.size_alloc]; exact Nat.le_succ _)))
        | (at_builtin; refine wpList_append_str _ rfl _ _ rfl w.heap.size _ L rfl HO3.out _ 1 X rfl HL3.out lm2 sz3.out ?_; intro g4 c4 w4 O4 hg4; have OX4 := hid O4; have GX4 := hid hg4; clear O4 hg4))
      have B3 := then_ hB h3
      have B4 : Below w.heap.size w w4 := (B3.alloc B3.size (.cells #[.string X] 9)).trans (below_grown GX4.out sz3.out (fun j hj => (World.ownsRow.lt HO3.out j hj).1))
      have el : (L ++ [X]).length = k + 1 := by simp [lm]
      have OF := OX4.out
      rw [el, EX.out] at OF
      exact ⟨⟨k + 1, by omega, rfl, ⟨_, c4, rfl⟩, OF, B4⟩, by simp [intOf]; omega⟩
    · have ek : k = n := by omega
      subst ek
      go_wp2
      go_ret
      exact ⟨a, c, rfl, OO.out, hB⟩
end Go.Proofs.YtaaeeaknjlammaaGreatDoor
