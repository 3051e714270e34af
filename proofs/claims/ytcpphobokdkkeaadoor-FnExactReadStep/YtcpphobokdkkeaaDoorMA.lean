/- decimal of the program; the writing of a strings.Builder. -/
import Derived.Test.YtcpphobokdkkeaaDoorLG
import Derived.Test.YtcpphobokdkkeaaDoorV
import Derived.Lib.AppendIntMem
namespace Go.Proofs.YtcpphobokdkkeaaDoor
open Go.RowKit Go.Deep Go.Maps

theorem decL_lib (n : Nat) : Lib.decDigits n = decL n := by
  induction n using Nat.strongRecOn with
  | _ n ih =>
    by_cases h : n < 10
    · rw [decL_small h, Lib.decDigits, dif_pos h]
    · rw [decL_big h, Lib.decDigits, dif_neg h, ih (n / 10) (by omega)]

/-- the table that strconv reads -/
def Tab (w : World) : Prop := Lib.TabIs Tryd.prog w "internal/strconv.uint64pow10" .u64 Lib.pow10Tab
theorem Tryd.tabSome : (Tryd.prog.globalNamed "internal/strconv.uint64pow10").isSome = true := by kernel_rfl
theorem Tryd.tabNamed : ∃ g, Tryd.prog.globalNamed "internal/strconv.uint64pow10" = some g := Option.isSome_iff_exists.1 Tryd.tabSome
theorem Tab.below {w w' : World} (h : Tab w) (hb : Below w.heap.size w w') : Tab w' := by
  obtain ⟨g, hg⟩ := Tryd.tabNamed
  unfold Tab Lib.TabIs at *
  refine var?_below hb hg ?_ h
  rcases Nat.lt_or_ge g w.heap.size with h' | h'
  · exact h'
  · exfalso
    simp [World.var?, hg, Array.getElem?_eq_none h'] at h

set_option maxRecDepth 100000 in
theorem decimal_any (x : Int) (w : World) (h0 : 0 ≤ x) (h1 : x ≤ 10000000000) (ht : Tab w) :
    Calls Tryd.prog 43 #[.int .i64 x] w fun e w' => e = .returned (.string ⟨(decL x.toNat).toArray⟩) ∧ Below w.heap.size w w' := by
  go_enter Tryd.func43, Tryd.ntmps43
  go_wp2_with fail
  refine (Tryd.strconv_FormatInt_10 x (by omega) (by omega) w ht).mono ?_
  rintro e w' ⟨rfl, k, os, rfl⟩
  have e1 : Lib.itoa x = decL x.toNat := by
    unfold Lib.itoa
    rw [if_neg (by omega), decL_lib]
  have hb : Below w.heap.size w (Sort.grow (w.drewN k) os) := Lib.below_grow _ w (Nat.le_refl _) k os
  rw [e1]
  generalize Sort.grow (w.drewN k) os = W at *
  go_wp2
  go_ret
  exact ⟨rfl, hb⟩

theorem ownsRow_shape {w : World} {B e size n : Nat} {v : Value} {cs : List Value} (h : w.ownsRow B e size v n cs) : ∃ a c, v = .slice a n c := by
  rcases h.2 with ⟨rfl, rfl⟩ | ⟨gb, cap, cur, rfl, _⟩
  · exact ⟨_, _, rfl⟩
  · exact ⟨_, _, rfl⟩

theorem Tryd.size78 : (Tryd.prog.info? 78).map (·.size) = some 2 := by kernel_rfl
theorem Tryd.lies78 : liesAt Tryd.prog Tryd.prog.depth 78 (2 / Tryd.prog.cellsOf 78) 0 78 1 = true := by kernel_rfl
theorem Tryd.info5 : (Tryd.prog.info? 5).map (fun i => (i.zero, i.size, i.bytes)) = some (some (.int .u8 0), 1, 1) := by kernel_rfl

/-- every block but b that holds no bytes is as it was -/
def Keeps5 (b : Nat) (w w' : World) : Prop := ∀ (P : Nat) (cs : Array Value) (T : Nat), T ≠ 5 → P ≠ b → w.heap[P]? = some (.cells cs T (0, 0)) → w'.heap[P]? = some (.cells cs T (0, 0))

set_option maxRecDepth 100000 in
set_option maxHeartbeats 1000000 in
theorem copyCheck_any (B b : Nat) (bs : List Value) (w : World) (h : Lib.IsBuilder 78 5 B b bs w) :
    Calls Tryd.prog 60 #[.pointer (some ⟨b, 0, none⟩)] w fun e w' => e = .returned (.tuple #[]) ∧ Lib.BuilderAt 78 5 B b (.pointer (some ⟨b, 0, none⟩)) bs w' ∧ Below B w w' ∧ Keeps5 b w w' := by
  obtain ⟨j, hj, hjs⟩ := Option.map_eq_some_iff.1 Tryd.size78
  rcases h with h | h
  · have c0 := h.cell0
    have fz := h.frozen0
    have sh := h.shape
    have k1 := Lib.run_to_unsafe (P := Tryd.prog) w (e := 78) (cells := 2) ⟨b, 0, none⟩ Tryd.underlying76 Tryd.underlying99 hj (by rw [hjs]; decide) sh (by simp)
    have k2 := Lib.run_from_unsafe (P := Tryd.prog) w (e := 78) (cells := 2) ⟨b, 0, none⟩ Tryd.underlying99 Tryd.underlying76 hj sh Tryd.lies78
    have U := h.used (.pointer (some ⟨b, 0, none⟩))
    have hb : Below B w (w.setCell ⟨b, 0, none⟩ (.pointer (some ⟨b, 0, none⟩))) := (Below.refl B w).setCell (p := ⟨b, 0, none⟩) h.1 _
    have kp : Keeps5 b w (w.setCell ⟨b, 0, none⟩ (.pointer (some ⟨b, 0, none⟩))) := fun P cs T _ hP hh => (blk_setCell_other _ _ _ _ (by dsimp only; exact hP)).trans hh
    clear h hj hjs sh
    go_enter Tryd.func60, Tryd.ntmps60
    go_wp2
    rw [run_callFunc_extern Tryd.func68 (by kernel_rfl) (by kernel_rfl) (by kernel_rfl) (e := Extern.AbiNoEscape.same) (by kernel_rfl), Lib.run_noEscape]
    simp only [Result.andThen]
    rw [Oper.upon_value]
    go_wp2
    exact bodyPost_end (v := .tuple #[]) (by simp [results, Tryd.results60, go_sem]) rfl ⟨rfl, U, hb, kp⟩
  · have c0 := h.cell0
    have k1 := Lib.run_neq_ptr_same (P := Tryd.prog) w ⟨b, 0, none⟩ Tryd.underlying76 hj
    have hb := Below.refl B w
    clear hj hjs
    go_enter Tryd.func60, Tryd.ntmps60
    go_wp2
    exact bodyPost_end (v := .tuple #[]) (by simp [results, Tryd.results60, go_sem]) rfl ⟨rfl, h, hb, fun _ _ _ _ _ hh => hh⟩

set_option maxRecDepth 100000 in
set_option maxHeartbeats 1000000 in
theorem writeString_any (B b : Nat) (bs : List Value) (s : ByteArray) (w : World) (h : Lib.IsBuilder 78 5 B b bs w) (hlen : bs.length + s.size ≤ 140737488355328) (hBw : B ≤ w.heap.size) :
    Calls Tryd.prog 44 #[.pointer (some ⟨b, 0, none⟩), .string s] w fun e w' => e = .returned (.tuple #[.int .i64 s.size, .nilIface]) ∧ Lib.IsBuilder 78 5 B b (bs ++ Lib.strCells s) w' ∧ Below B w w' ∧ Keeps5 b w w' := by
  obtain ⟨i0, hi, hz0, hz1, hz2⟩ := info_parts Tryd.info5
  go_enter Tryd.func44, Tryd.ntmps44
  go_wp2_with fail
  refine (copyCheck_any B b bs w h).mono ?_
  rintro e w1 ⟨rfl, h1, hb1, kp1⟩
  obtain ⟨hB, v, hbk, hown, hne⟩ := h1
  obtain ⟨ua, uc, rfl⟩ := ownsRow_shape hown
  have c0 : w1.cell? ⟨b, 0, none⟩ = some (.pointer (some ⟨b, 0, none⟩)) := by rw [Lib.cell_of_heap hbk]; rfl
  have c1 : w1.cell? ⟨b, 1, none⟩ = some (.slice ua bs.length uc) := by rw [Lib.cell_of_heap hbk]; rfl
  have hw1 : B ≤ w1.heap.size := Nat.le_trans hBw hb1.size
  have HO : Hid (w1.ownsRow B 5 1 (.slice ua bs.length uc) bs.length bs) := hown
  have hm1 : bs.length + s.size ≤ maxLen := by unfold maxLen; omega
  clear hown h
  go_wp2_with (at_builtin; (refine Lib.wpList_append_own_string _ rfl _ _ 66 9 rfl B 5 i0 Tryd.underlying66 Tryd.underlying9 hi hz0 hz1 hz2 _ _ _ rfl HO.out s rfl hm1 hlen hw1 ?_; intro v' w2 hown' hgrow _; obtain ⟨va, vc, rfl⟩ := ownsRow_shape hown'; have hbk2 := (hgrow.block b (Array.getElem?_eq_some_iff.1 hbk).1 (fun e => hne e.symm)).trans hbk; have q0 : w2.cell? ⟨b, 0, none⟩ = some (.pointer (some ⟨b, 0, none⟩)) := (by rw [Lib.cell_of_heap hbk2]; rfl); have q1 : w2.cell? ⟨b, 1, none⟩ = some (.slice ua bs.length uc) := (by rw [Lib.cell_of_heap hbk2]; rfl); have qf := Lib.frozen_of_heap hbk2 1))
  have e1 : bs.length + s.size = (bs ++ Lib.strCells s).length := by rw [List.length_append, Lib.strCells_length]
  have hP : Lib.IsBuilder 78 5 B b (bs ++ Lib.strCells s) (w2.setCell ⟨b, 1, none⟩ (.slice va (bs.length + s.size) vc)) := Or.inr (Lib.BuilderAt.put hB hbk2 (by rw [← e1]; exact hown') (by decide))
  have hb2 : Below B w w2 := hb1.grown hgrow hw1 (fun k hk => (World.ownsRow.lt HO.out k hk).1)
  exact bodyPost_ret (v := .tuple #[.int .i64 s.size, .nilIface]) (by simp [results, Tryd.results44, go_sem]) rfl ⟨rfl, hP, hb2.setCell hB _, fun P cs T hT hPb hh => (blk_setCell_other _ _ _ _ (by dsimp only; exact hPb)).trans ((hgrow.block P (Array.getElem?_eq_some_iff.1 (kp1 P cs T hT hPb hh)).1 (fun e => Lib.ownBlock_ne HO.out (kp1 P cs T hT hPb hh) hT e.symm)).trans (kp1 P cs T hT hPb hh))⟩
end Go.Proofs.YtcpphobokdkkeaaDoor
