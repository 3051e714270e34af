/- The contracts of the library at this program, laid in plain words. -/
import Derived.Test.YthbmfbnnemgbpaaGreatDoorProg
import Derived.Shelf.Strings.OnBuilder
import Derived.Shelf.Strings.Builder1
import Derived.Shelf.Strings.BuilderF
import Derived.Shelf.Strconv.Itoa4
import Derived.Shelf.Strconv.Clone
import Derived.Shelf.LaysM
import Derived.Shelf.Lays
import Derived.Ground.NamesProg
import Derived.Test.YthbmfbnnemgbpaaGreatDoorZ6
import Derived.Lib.AppendIntMem
import Derived.Test.YthbmfbnnemgbpaaGreatDoorZ0
import Derived.Deep.OwnRows
import Derived.Deep.RegionHeld3
import Derived.Laws.IdiomStrings
import Derived.Maps.AppendAt
import Derived.Deep.AppendLies
import Derived.Laws.OwnMore
import Derived.WideShapes
import Derived.Deep.RegionLaw
namespace Go.Proofs.YthbmfbnnemgbpaaGreatDoor
open Go.Shelf
def Tryz.joinA_ren : Go.Shelf.Ren := ⟨fun | 156 => 18 | 165 => 47 | 166 => 45 | 169 => 46 | 240 => 66 | 241 => 67 | 276 => 82 | 277 => 83 | n => n, fun | 31 => 44 | 9 => 9 | 3 => 3 | 4 => 4 | 0 => 0 | 20 => 20 | 72 => 91 | 76 => 94 | 70 => 89 | 37 => 22 | 75 => 93 | 127 => 108 | 164 => 116 | 5 => 5 | 80 => 81 | n => n, fun | n => n⟩
theorem Tryz.joinA : Go.Proofs.Lays.n156 Tryz.prog Tryz.joinA_ren := {
 mixed := by kernel_rfl
 f156 := Tryz.func18.trans (congrArg some (by kernel_rfl))
 f165 := Tryz.func47.trans (congrArg some (by kernel_rfl))
 f166 := Tryz.func45.trans (congrArg some (by kernel_rfl))
 f169 := Tryz.func46.trans (congrArg some (by kernel_rfl))
 f240 := Tryz.func66.trans (congrArg some (by kernel_rfl))
 f241 := Tryz.func67.trans (congrArg some (by kernel_rfl))
 f276 := Tryz.func82.trans (congrArg some (by kernel_rfl))
 f277 := Tryz.func83.trans (congrArg some (by kernel_rfl))
 t0 := Tryz.underlying0
 a0 := Tryz.isAgg0
 z0 := Tryz.sizeOf0
 v0 := Tryz.zeroValue0
 t3 := Tryz.underlying3
 a3 := Tryz.isAgg3
 z3 := Tryz.sizeOf3
 v3 := Tryz.zeroValue3
 t4 := Tryz.underlying4
 a4 := Tryz.isAgg4
 z4 := Tryz.sizeOf4
 v4 := Tryz.zeroValue4
 t9 := Tryz.underlying9
 a9 := Tryz.isAgg9
 z9 := Tryz.sizeOf9
 v9 := Tryz.zeroValue9
 t20 := Tryz.underlying20
 a20 := Tryz.isAgg20
 z20 := Tryz.sizeOf20
 v20 := Tryz.zeroValue20
 t31 := Tryz.underlying44
 a31 := Tryz.isAgg44
 z31 := Tryz.sizeOf44
 v31 := Tryz.zeroValue44
 t37 := Tryz.underlying22
 a37 := Tryz.isAgg22
 z37 := Tryz.sizeOf22
 v37 := Tryz.zeroValue22
 t70 := Tryz.underlying89
 a70 := Tryz.isAgg89
 z70 := Tryz.sizeOf89
 v70 := Tryz.zeroValue89
 t72 := Tryz.underlying91
 a72 := Tryz.isAgg91
 z72 := Tryz.sizeOf91
 v72 := Tryz.zeroValue91
 t75 := Tryz.underlying93
 a75 := Tryz.isAgg93
 z75 := Tryz.sizeOf93
 v75 := Tryz.zeroValue93
 t76 := Tryz.underlying94
 a76 := Tryz.isAgg94
 z76 := Tryz.sizeOf94
 v76 := Tryz.zeroValue94
 t127 := Tryz.underlying108
 a127 := Tryz.isAgg108
 z127 := Tryz.sizeOf108
 v127 := Tryz.zeroValue108
 t164 := Tryz.underlying116
 a164 := Tryz.isAgg116
 z164 := Tryz.sizeOf116
 v164 := Tryz.zeroValue116 }
def Tryz.bstrA_ren : Go.Shelf.Ren := ⟨fun | 169 => 46 | n => n, fun | 70 => 89 | 9 => 9 | 0 => 0 | 72 => 91 | 37 => 22 | 127 => 108 | 3 => 3 | 5 => 5 | n => n, fun | n => n⟩
theorem Tryz.bstrA : Go.Proofs.Lays.n169 Tryz.prog Tryz.bstrA_ren := {
 mixed := by kernel_rfl
 f169 := Tryz.func46.trans (congrArg some (by kernel_rfl))
 t0 := Tryz.underlying0
 a0 := Tryz.isAgg0
 z0 := Tryz.sizeOf0
 v0 := Tryz.zeroValue0
 t3 := Tryz.underlying3
 a3 := Tryz.isAgg3
 z3 := Tryz.sizeOf3
 v3 := Tryz.zeroValue3
 t9 := Tryz.underlying9
 a9 := Tryz.isAgg9
 z9 := Tryz.sizeOf9
 v9 := Tryz.zeroValue9
 t37 := Tryz.underlying22
 a37 := Tryz.isAgg22
 z37 := Tryz.sizeOf22
 v37 := Tryz.zeroValue22
 t70 := Tryz.underlying89
 a70 := Tryz.isAgg89
 z70 := Tryz.sizeOf89
 v70 := Tryz.zeroValue89
 t72 := Tryz.underlying91
 a72 := Tryz.isAgg91
 z72 := Tryz.sizeOf91
 v72 := Tryz.zeroValue91
 t127 := Tryz.underlying108
 a127 := Tryz.isAgg108
 z127 := Tryz.sizeOf108
 v127 := Tryz.zeroValue108 }
def Tryz.fmtA_ren : Go.Shelf.Ren := ⟨fun | 173 => 65 | 246 => 81 | 283 => 99 | 284 => 100 | 285 => 101 | 286 => 102 | 129 => 106 | 317 => 105 | 318 => 107 | 319 => 108 | 320 => 109 | 337 => 111 | 338 => 112 | n => n, fun | 2 => 2 | 3 => 3 | 9 => 9 | 4 => 4 | 171 => 133 | 0 => 0 | 53 => 113 | 37 => 22 | 5 => 5 | 173 => 136 | 212 => 140 | 51 => 141 | 20 => 20 | 213 => 142 | 46 => 115 | 232 => 147 | 233 => 148 | n => n, fun | 17 => 2 | 18 => 3 | 19 => 4 | n => n⟩
theorem Tryz.fmtA : Go.Proofs.LaysM.n173 Tryz.prog Tryz.fmtA_ren := {
 mixed := by kernel_rfl
 f129 := Tryz.func106.trans (congrArg some (by kernel_rfl))
 f173 := Tryz.func65.trans (congrArg some (by kernel_rfl))
 f246 := Tryz.func81.trans (congrArg some (by kernel_rfl))
 f283 := Tryz.func99.trans (congrArg some (by kernel_rfl))
 f284 := Tryz.func100.trans (congrArg some (by kernel_rfl))
 f285 := Tryz.func101.trans (congrArg some (by kernel_rfl))
 f286 := Tryz.func102.trans (congrArg some (by kernel_rfl))
 f317 := Tryz.func105.trans (congrArg some (by kernel_rfl))
 f318 := Tryz.func107.trans (congrArg some (by kernel_rfl))
 f319 := Tryz.func108.trans (congrArg some (by kernel_rfl))
 f320 := Tryz.func109.trans (congrArg some (by kernel_rfl))
 f337 := Tryz.func111.trans (congrArg some (by kernel_rfl))
 f338 := Tryz.func112.trans (congrArg some (by kernel_rfl))
 t0 := Tryz.underlying0
 a0 := Tryz.isAgg0
 z0 := Tryz.sizeOf0
 v0 := Tryz.zeroValue0
 t2 := Tryz.underlying2
 a2 := Tryz.isAgg2
 z2 := Tryz.sizeOf2
 v2 := Tryz.zeroValue2
 t3 := Tryz.underlying3
 a3 := Tryz.isAgg3
 z3 := Tryz.sizeOf3
 v3 := Tryz.zeroValue3
 t4 := Tryz.underlying4
 a4 := Tryz.isAgg4
 z4 := Tryz.sizeOf4
 v4 := Tryz.zeroValue4
 t5 := Tryz.underlying5
 a5 := Tryz.isAgg5
 z5 := Tryz.sizeOf5
 v5 := Tryz.zeroValue5
 t9 := Tryz.underlying9
 a9 := Tryz.isAgg9
 z9 := Tryz.sizeOf9
 v9 := Tryz.zeroValue9
 t20 := Tryz.underlying20
 a20 := Tryz.isAgg20
 z20 := Tryz.sizeOf20
 v20 := Tryz.zeroValue20
 t37 := Tryz.underlying22
 a37 := Tryz.isAgg22
 z37 := Tryz.sizeOf22
 v37 := Tryz.zeroValue22
 t46 := Tryz.underlying115
 a46 := Tryz.isAgg115
 z46 := Tryz.sizeOf115
 v46 := Tryz.zeroValue115
 t51 := Tryz.underlying141
 a51 := Tryz.isAgg141
 z51 := Tryz.sizeOf141
 v51 := Tryz.zeroValue141
 t53 := Tryz.underlying113
 a53 := Tryz.isAgg113
 z53 := Tryz.sizeOf113
 v53 := Tryz.zeroValue113
 t171 := Tryz.underlying133
 a171 := Tryz.isAgg133
 z171 := Tryz.sizeOf133
 v171 := Tryz.zeroValue133
 t173 := Tryz.underlying136
 a173 := Tryz.isAgg136
 z173 := Tryz.sizeOf136
 v173 := Tryz.zeroValue136
 t212 := Tryz.underlying140
 a212 := Tryz.isAgg140
 z212 := Tryz.sizeOf140
 v212 := Tryz.zeroValue140
 t213 := Tryz.underlying142
 a213 := Tryz.isAgg142
 z213 := Tryz.sizeOf142
 t232 := Tryz.underlying147
 a232 := Tryz.isAgg147
 z232 := Tryz.sizeOf147
 v232 := Tryz.zeroValue147
 t233 := Tryz.underlying148
 a233 := Tryz.isAgg148
 z233 := Tryz.sizeOf148
 v233 := Tryz.zeroValue148
 g17 := by kernel_rfl
 g18 := by kernel_rfl
 g19 := by kernel_rfl
 i0 := by kernel_rfl
 i2 := by kernel_rfl
 i3 := by kernel_rfl
 i4 := by kernel_rfl
 i5 := by kernel_rfl
 i9 := by kernel_rfl
 i20 := by kernel_rfl
 i37 := by kernel_rfl
 i46 := by kernel_rfl
 i51 := by kernel_rfl
 i53 := by kernel_rfl
 i171 := by kernel_rfl
 i173 := by kernel_rfl
 i212 := by kernel_rfl
 i232 := by kernel_rfl
 i233 := by kernel_rfl
 m17 := by kernel_rfl
 m18 := by kernel_rfl
 m19 := by kernel_rfl }
def Tryz.cloneA_ren : Go.Shelf.Ren := ⟨fun | 316 => 71 | n => n, fun | 9 => 9 | 3 => 3 | 4 => 4 | 37 => 22 | 0 => 0 | 127 => 108 | 5 => 5 | n => n, fun | n => n⟩
theorem Tryz.cloneA : Go.Proofs.LaysM.n316 Tryz.prog Tryz.cloneA_ren := {
 mixed := by kernel_rfl
 f316 := Tryz.func71.trans (congrArg some (by kernel_rfl))
 t0 := Tryz.underlying0
 a0 := Tryz.isAgg0
 z0 := Tryz.sizeOf0
 v0 := Tryz.zeroValue0
 t3 := Tryz.underlying3
 a3 := Tryz.isAgg3
 z3 := Tryz.sizeOf3
 v3 := Tryz.zeroValue3
 t4 := Tryz.underlying4
 a4 := Tryz.isAgg4
 z4 := Tryz.sizeOf4
 v4 := Tryz.zeroValue4
 t9 := Tryz.underlying9
 a9 := Tryz.isAgg9
 z9 := Tryz.sizeOf9
 v9 := Tryz.zeroValue9
 t37 := Tryz.underlying22
 a37 := Tryz.isAgg22
 z37 := Tryz.sizeOf22
 v37 := Tryz.zeroValue22
 t127 := Tryz.underlying108
 a127 := Tryz.isAgg108
 z127 := Tryz.sizeOf108
 v127 := Tryz.zeroValue108
 t5 := Tryz.underlying5
 a5 := Tryz.isAgg5
 z5 := Tryz.sizeOf5
 v5 := Tryz.zeroValue5
 i0 := by kernel_rfl
 i3 := by kernel_rfl
 i4 := by kernel_rfl
 i5 := by kernel_rfl
 i9 := by kernel_rfl
 i37 := by kernel_rfl
 i127 := by kernel_rfl }
theorem Tryz.Builder_Extra_169 : Builder.Extra Tryz.prog Tryz.bstrA_ren := {
 sizeBuilder := by kernel_rfl
 liesBuilder := by kernel_rfl
 t5 := Tryz.underlying5
 a5 := Tryz.isAgg5
 z5 := Tryz.sizeOf5
 v5 := Tryz.zeroValue5
 infoByte := by kernel_rfl
 cellsByte := by kernel_rfl
 sizeByte := by kernel_rfl
 neB5 := by decide }
theorem Tryz.Builder_Extra_156 : Builder.Extra Tryz.prog Tryz.joinA_ren := {
 sizeBuilder := by kernel_rfl
 liesBuilder := by kernel_rfl
 t5 := Tryz.underlying5
 a5 := Tryz.isAgg5
 z5 := Tryz.sizeOf5
 v5 := Tryz.zeroValue5
 infoByte := by kernel_rfl
 cellsByte := by kernel_rfl
 sizeByte := by kernel_rfl
 neB5 := by decide }
open Go.RowKit in
theorem Tryz.Builder_String_any (B b : Nat) (l : List UInt8) (w : World) (h : Lib.IsBuilder 91 5 B b (Lib.byteCells l) w) (hBw : B ≤ w.heap.size) :
 Calls Tryz.prog 46 #[.pointer (some ⟨b, 0, none⟩)] w fun e w' => e = .returned (.string ⟨l.toArray⟩) ∧ Below B w w' := Any.Builder_String_any Tryz.bstrA Tryz.Builder_Extra_169 B b l w h hBw
open Go.RowKit Go.Sort Go.Lib in
theorem Tryz.strconv_FormatInt_10 (n : Int) (h0 : -9223372036854775808 ≤ n) (h1 : n ≤ 9223372036854775807) (w : World) (htab : Lib.TabIs Tryz.prog w "internal/strconv.uint64pow10" .u64 Lib.pow10Tab) :
 Calls Tryz.prog 65 #[.int .i64 n, .int .i64 10] w fun e w' => e = .returned (.string ⟨(Lib.itoa n).toArray⟩) ∧ ∃ k os, w' = grow (w.drewN k) os := Any.strconv_FormatInt_10 Tryz.fmtA n h0 h1 w htab
open Go.RowKit in
theorem Tryz.strings_Join (bk o c : Nat) (xs : List ByteArray) (sep : ByteArray) (w : World)
 (hcells : ∀ (j : Nat) x, xs[j]? = some x → w.cell? ⟨bk, o + j, none⟩ = some (.string x))
 (hbk : bk < w.heap.size) (hN : xs.length ≤ 140737488355328) (hcap : xs.length ≤ c)
 (hlen : (Lib.join (xs.map (·.data.toList)) sep.data.toList).length ≤ 140737488355328) :
 Calls Tryz.prog 18 #[.slice (some ⟨bk, o, none⟩) xs.length c, .string sep] w fun e w' => e = .returned (.string ⟨(Lib.join (xs.map (·.data.toList)) sep.data.toList).toArray⟩) ∧ Below w.heap.size w w' := Any.strings_Join Tryz.joinA Tryz.Builder_Extra_156 bk o c xs sep w hcells hbk hN hcap hlen
end Go.Proofs.YthbmfbnnemgbpaaGreatDoor
namespace Go.Proofs.YthbmfbnnemgbpaaGreatDoor
open Go.RowKit Go.Deep Go.Maps
theorem decL_lib (n : Nat) : Lib.decDigits n = decL n := by
 induction n using Nat.strongRecOn with
 | _ n ih =>
  by_cases h : n < 10
  ·rw [decL_small h, Lib.decDigits, dif_pos h]
  ·rw [decL_big h, Lib.decDigits, dif_neg h, ih (n / 10) (by omega)]
def Tab (w : World) : Prop := Lib.TabIs Tryz.prog w "internal/strconv.uint64pow10" .u64 Lib.pow10Tab
theorem Tryz.tabSome : (Tryz.prog.globalNamed "internal/strconv.uint64pow10").isSome = true := by kernel_rfl
theorem Tryz.tabNamed : ∃ g, Tryz.prog.globalNamed "internal/strconv.uint64pow10" = some g := Option.isSome_iff_exists.1 Tryz.tabSome
theorem Tab.below {w w' : World} (h : Tab w) (hb : Below w.heap.size w w') : Tab w' := by
 obtain ⟨g, hg⟩ := Tryz.tabNamed
 unfold Tab Lib.TabIs at *
 refine var?_below hb hg ?_ h
 rcases Nat.lt_or_ge g w.heap.size with h' | h'
 ·exact h'
 ·exfalso
  simp [World.var?, hg, Array.getElem?_eq_none h'] at h
set_option maxRecDepth 100000 in
theorem decimal_any (x : Int) (w : World) (h0 : 0 ≤ x) (h1 : x ≤ 10000000000) (ht : Tab w) :
 Calls Tryz.prog 44 #[.int .i64 x] w fun e w' => e = .returned (.string ⟨(decL x.toNat).toArray⟩) ∧ Below w.heap.size w w' := by
 go_enter Tryz.func44, Tryz.ntmps44
 go_wp2_with fail
 refine (Tryz.strconv_FormatInt_10 x (by omega) (by omega) w ht).mono ?_
 rintro e w' ⟨rfl, k, os, rfl⟩
 have e1 : Lib.itoa x = decL x.toNat := by
  unfold Lib.itoa
  rw [if_neg (by omega), decL_lib]
 have hb : Below w.heap.size w (Sort.grow (w.drewN k) os) := Lib.below_grow _ w (Nat.le_refl _) k os
 rw [e1]
 generalize Sort.grow (w.drewN k) os = W at *
 go_wp2
 go_ret
 exact ⟨rfl, hb⟩
theorem Tryz.size78 : (Tryz.prog.info? 91).map (·.size) = some 2 := by kernel_rfl
theorem Tryz.lies78 : liesAt Tryz.prog Tryz.prog.depth 91 (2 / Tryz.prog.cellsOf 91) 0 91 1 = true := by kernel_rfl
theorem Tryz.info5 : (Tryz.prog.info? 5).map (fun i => (i.zero, i.size, i.bytes)) = some (some (.int .u8 0), 1, 1) := by kernel_rfl
def Keeps5 (b : Nat) (w w' : World) : Prop := ∀ (P : Nat) (cs : Array Value) (T : Nat), T ≠ 5 → P ≠ b → w.heap[P]? = some (.cells cs T (0, 0)) → w'.heap[P]? = some (.cells cs T (0, 0))
set_option maxRecDepth 100000 in
set_option maxHeartbeats 1000000 in
theorem copyCheck_any (B b : Nat) (bs : List Value) (w : World) (h : Lib.IsBuilder 91 5 B b bs w) :
 Calls Tryz.prog 66 #[.pointer (some ⟨b, 0, none⟩)] w fun e w' => e = .returned (.tuple #[]) ∧ Lib.BuilderAt 91 5 B b (.pointer (some ⟨b, 0, none⟩)) bs w' ∧ Below B w w' ∧ Keeps5 b w w' := by
 obtain ⟨j, hj, hjs⟩ := Option.map_eq_some_iff.1 Tryz.size78
 rcases h with h | h
 ·have c0 := h.cell0
  have fz := h.frozen0
  have sh := h.shape
  have k1 := Lib.run_to_unsafe (P := Tryz.prog) w (e := 91) (cells := 2) ⟨b, 0, none⟩ Tryz.underlying89 Tryz.underlying116 hj (by rw [hjs]; decide) sh (by simp)
  have k2 := Lib.run_from_unsafe (P := Tryz.prog) w (e := 91) (cells := 2) ⟨b, 0, none⟩ Tryz.underlying116 Tryz.underlying89 hj sh Tryz.lies78
  have U := h.used (.pointer (some ⟨b, 0, none⟩))
  have hb : Below B w (w.setCell ⟨b, 0, none⟩ (.pointer (some ⟨b, 0, none⟩))) := (Below.refl B w).setCell (p := ⟨b, 0, none⟩) h.1 _
  have kp : Keeps5 b w (w.setCell ⟨b, 0, none⟩ (.pointer (some ⟨b, 0, none⟩))) := fun P cs T _ hP hh => (blk_setCell_other _ _ _ _ (by dsimp only; exact hP)).trans hh
  clear h hj hjs sh
  go_enter Tryz.func66, Tryz.ntmps66
  go_wp2
  rw [run_callFunc_extern Tryz.func82 (by kernel_rfl) (by kernel_rfl) (by kernel_rfl) (e := Extern.AbiNoEscape.same) (by kernel_rfl), Lib.run_noEscape]
  simp only [Result.andThen]
  rw [Oper.upon_value]
  go_wp2
  exact bodyPost_end (v := .tuple #[]) (by simp [results, Tryz.results66, go_sem]) rfl ⟨rfl, U, hb, kp⟩
 ·have c0 := h.cell0
  have k1 := Lib.run_neq_ptr_same (P := Tryz.prog) w ⟨b, 0, none⟩ Tryz.underlying89 hj
  have hb := Below.refl B w
  clear hj hjs
  go_enter Tryz.func66, Tryz.ntmps66
  go_wp2
  exact bodyPost_end (v := .tuple #[]) (by simp [results, Tryz.results66, go_sem]) rfl ⟨rfl, h, hb, fun _ _ _ _ _ hh => hh⟩
set_option maxRecDepth 100000 in
set_option maxHeartbeats 1000000 in
theorem writeString_any (B b : Nat) (bs : List Value) (s : ByteArray) (w : World) (h : Lib.IsBuilder 91 5 B b bs w) (hlen : bs.length + s.size ≤ 140737488355328) (hBw : B ≤ w.heap.size) :
 Calls Tryz.prog 45 #[.pointer (some ⟨b, 0, none⟩), .string s] w fun e w' => e = .returned (.tuple #[.int .i64 s.size, .nilIface]) ∧ Lib.IsBuilder 91 5 B b (bs ++ Lib.strCells s) w' ∧ Below B w w' ∧ Keeps5 b w w' := by
 obtain ⟨i0, hi, hz0, hz1, hz2⟩ := info_parts Tryz.info5
 go_enter Tryz.func45, Tryz.ntmps45
 go_wp2_with fail
 refine (copyCheck_any B b bs w h).mono ?_
 rintro e w1 ⟨rfl, h1, hb1, kp1⟩
 obtain ⟨hB, v, hbk, hown, hne⟩ := h1
 obtain ⟨ua, uc, rfl⟩ := ownsRow_shape hown
 have c0 : w1.cell? ⟨b, 0, none⟩ = some (.pointer (some ⟨b, 0, none⟩)) := by rw [Lib.cell_of_heap hbk]; rfl
 have c1 : w1.cell? ⟨b, 1, none⟩ = some (.slice ua bs.length uc) := by rw [Lib.cell_of_heap hbk]; rfl
 have hw1 : B ≤ w1.heap.size := Nat.le_trans hBw hb1.size
 have HO : Hid (w1.ownsRow B 5 1 (.slice ua bs.length uc) bs.length bs) := hown
 have hm1 : bs.length + s.size ≤ maxLen := by unfold maxLen; omega
 clear hown h
 go_wp2_with (at_builtin; (refine Lib.wpList_append_own_string _ rfl _ _ 22 9 rfl B 5 i0 Tryz.underlying22 Tryz.underlying9 hi hz0 hz1 hz2 _ _ _ rfl HO.out s rfl hm1 hlen hw1 ?_; intro v' w2 hown' hgrow _; obtain ⟨va, vc, rfl⟩ := ownsRow_shape hown'; have hbk2 := (hgrow.block b (Array.getElem?_eq_some_iff.1 hbk).1 (fun e => hne e.symm)).trans hbk; have q0 : w2.cell? ⟨b, 0, none⟩ = some (.pointer (some ⟨b, 0, none⟩)) := (by rw [Lib.cell_of_heap hbk2]; rfl); have q1 : w2.cell? ⟨b, 1, none⟩ = some (.slice ua bs.length uc) := (by rw [Lib.cell_of_heap hbk2]; rfl); have qf := Lib.frozen_of_heap hbk2 1))
 have e1 : bs.length + s.size = (bs ++ Lib.strCells s).length := by rw [List.length_append, Lib.strCells_length]
 have hP : Lib.IsBuilder 91 5 B b (bs ++ Lib.strCells s) (w2.setCell ⟨b, 1, none⟩ (.slice va (bs.length + s.size) vc)) := Or.inr (Lib.BuilderAt.put hB hbk2 (by rw [← e1]; exact hown') (by decide))
 have hb2 : Below B w w2 := hb1.grown hgrow hw1 (fun k hk => (World.ownsRow.lt HO.out k hk).1)
 exact bodyPost_ret (v := .tuple #[.int .i64 s.size, .nilIface]) (by simp [results, Tryz.results45, go_sem]) rfl ⟨rfl, hP, hb2.setCell hB _, fun P cs T hT hPb hh => (blk_setCell_other _ _ _ _ (by dsimp only; exact hPb)).trans ((hgrow.block P (Array.getElem?_eq_some_iff.1 (kp1 P cs T hT hPb hh)).1 (fun e => Lib.ownBlock_ne HO.out (kp1 P cs T hT hPb hh) hT e.symm)).trans (kp1 P cs T hT hPb hh))⟩
end Go.Proofs.YthbmfbnnemgbpaaGreatDoor
namespace Go.Proofs.YthbmfbnnemgbpaaGreatDoor
open Go.RowKit Go.Deep Go.Maps
theorem isBuilder_below {T e B b : Nat} {bs : List Value} {w w' : World} (h : Lib.IsBuilder T e B b bs w) (hb : Below w.heap.size w w') : Lib.IsBuilder T e B b bs w' := by
 have aux : ∀ p, Lib.BuilderAt T e B b p bs w → Lib.BuilderAt T e B b p bs w' := by
  rintro p ⟨h1, v, hbk, ho, hne⟩
  refine ⟨h1, v, (hb.block b (Array.getElem?_eq_some_iff.1 hbk).1).trans hbk, ⟨ho.1, ?_⟩, hne⟩
  rcases ho.2 with h2 | ⟨g, cap, cur, hv, hbg, hg, hr⟩
  ·exact .inl h2
  ·exact .inr ⟨g, cap, cur, hv, hbg, (hb.block g (Array.getElem?_eq_some_iff.1 hg).1).trans hg, hr⟩
 rcases h with h | h
 ·exact .inl (aux _ h)
 ·exact .inr (aux _ h)
theorem isBuilder_lt {T e B b : Nat} {bs : List Value} {w : World} (h : Lib.IsBuilder T e B b bs w) : b < w.heap.size := by
 rcases h with h | h <;> exact h.lt
theorem byte_app (a b : List UInt8) : Lib.byteCells a ++ Lib.byteCells b = Lib.byteCells (a ++ b) := by simp [Lib.byteCells]
theorem size_of (l : List UInt8) : (⟨l.toArray⟩ : ByteArray).size = l.length := by simp [ByteArray.size]
set_option maxRecDepth 100000 in
set_option maxHeartbeats 4000000 in
theorem implText_any (base : Int) (a : Option Addr) (n cap : Nat) (f g : Nat → Int) (w : World) (hn : n ≤ maxLen) (hc : CatsAt w a n f g) (ht : Tab w) :
 Calls Tryz.prog 17 #[.agg #[.int .i64 base, .slice a n cap]] w fun e w' => e = .returned (.string ⟨(ltext base n f g).toArray⟩) ∧ Below w.heap.size w w' := by
 have L0 := (Below.refl _ w).alloc (Nat.le_refl _) (.cells #[.int .i64 base, .slice a n cap] 26)
 have A0 := Blk.new w (.cells #[.int .i64 base, .slice a n cap] 26)
 obtain ⟨x1, x2⟩ := A0.two
 go_enter Tryz.func17, Tryz.ntmps17
 go_wp2_with fail
 refine (implOk_any _ _ _ _ f g _ hn (hc.below L0)).mono ?_
 rintro e w1 ⟨rfl, hb1⟩
 have L1 : Below w.heap.size w w1 := L0.trans (hb1.mono L0.size)
 have A1 := A0.below hb1
 clear x1 x2 A0 L0 hb1
 cases h : labOk base n f g with
 | false =>
  go_wp2
  go_ret
  exact ⟨by simp [ltext, h], L1⟩
 | true =>
  obtain ⟨h1, h2, h3⟩ := labOk_out h
  have h1' := inB_iff.1 h1
  have hf : ∀ i, i < n → 0 ≤ f i ∧ f i ≤ 9999 := fun i hi => by have := catOk_iff.1 (h3 i hi); omega
  have hg : ∀ i, i < n → 0 ≤ g i ∧ g i ≤ 9999 := fun i hi => by have := catOk_iff.1 (h3 i hi); omega
  have HE : Hid (ltext base n f g = txt base (catsTo f g n)) := (by simp [ltext, h] : ltext base n f g = txt base (catsTo f g n))
  clear h3 h1 h
  have I2 := Lib.fresh_isBuilder 91 5 w1
  have K2 := (Below.refl _ w1).alloc (Nat.le_refl _) (.cells #[.pointer none, .slice none 0 0] 91)
  have A2 := A1.below K2
  have L2 : Below w.heap.size w (w1.alloc (.cells #[.pointer none, .slice none 0 0] 91)) := L1.trans (K2.mono L1.size)
  have sA : w.heap.size < w1.heap.size := A1.lt
  clear A1 K2 L1
  obtain ⟨x1, x2⟩ := A2.two
  go_wp2_with fail
  generalize w1.alloc (.cells #[.pointer none, .slice none 0 0] 91) = V at *
  refine (decimal_any base V (by omega) (by omega) (ht.below L2)).mono ?_
  rintro e w3 ⟨rfl, hb3⟩
  have A3 := A2.below hb3
  have I3 := isBuilder_below I2 hb3
  have L3 : Below w.heap.size w w3 := L2.trans (hb3.mono L2.size)
  have ld := decL_len base.toNat
  clear x1 x2 A2 I2 L2 hb3
  go_wp2_with fail
  refine (writeString_any w1.heap.size w1.heap.size [] _ w3 I3 (by rw [size_of]; simp; omega) (Nat.le_of_lt (isBuilder_lt I3))).mono ?_
  rintro e w4 ⟨rfl, I4, hb4, kp4⟩
  have A4 : Blk w4 w.heap.size (.cells #[.int .i64 base, .slice a n cap] 26) := kp4 _ _ _ (by decide) (by omega) A3
  have L4 : Below w.heap.size w w4 := L3.trans (hb4.mono (by omega))
  have J4 : Lib.IsBuilder 91 5 w1.heap.size w1.heap.size (Lib.byteCells (txt base (catsTo f g 0))) w4 := by
   have e0 : txt base (catsTo f g 0) = decL base.toNat := by simp [txt, catsTo]
   rw [e0]
   exact I4
  clear A3 I3 L3 I4 hb4 kp4
  obtain ⟨x1, x2⟩ := A4.two
  go_wp2_with fail
  go_loopw [16] (fun i wr => ∃ k : Nat, k ≤ n ∧ i = .int .i64 k ∧ Lib.IsBuilder 91 5 w1.heap.size w1.heap.size (Lib.byteCells (txt base (catsTo f g k))) wr ∧ Below w.heap.size w wr ∧ w1.heap.size < wr.heap.size) (fun i _ => n - (intOf i).toNat)
  case atStart => exact ⟨0, Nat.zero_le _, rfl, J4, L4, isBuilder_lt J4⟩
  case round =>
   obtain ⟨k, hk, rfl, I, Lr, sr⟩ := hrel
   clear J4 L4 A4 x1 x2
   by_cases hlt : k < n
   ·have hki : (k : Int) < (n : Int) := by omega
    obtain ⟨b, off, rfl, hbl, hcc⟩ := (hc.below Lr) (by omega)
    obtain ⟨c1, c2⟩ := hcc k hlt
    have hf0 := hf k hlt
    have hg0 := hg k hlt
    have hD1 := decL_len (f k).toNat
    have hD2 := decL_len (g k).toNat
    have lk := txt_len base f g k (by omega) (fun i hi => by have := hf i (by omega); have := hg i (by omega); omega)
    have HT : Hid (txt base (catsTo f g (k + 1)) = txt base (catsTo f g k) ++ 44 :: (decL (f k).toNat ++ 58 :: decL (g k).toNat)) := by
     show _ = _
     rw [catsTo_succ, txt_snoc]; rfl
    have tr : Tab wr := ht.below Lr
    have P1 : Hid (∀ v : World, Below wr.heap.size wr v → Calls Tryz.prog 44 #[.int .i64 (f k)] v fun e w' => e = .returned (.string ⟨(decL (f k).toNat).toArray⟩) ∧ Below v.heap.size v w') := fun v hv => decimal_any (f k) v hf0.1 (by omega) (tr.below hv)
    have P2 : Hid (∀ v : World, Below wr.heap.size wr v → Calls Tryz.prog 44 #[.int .i64 (g k)] v fun e w' => e = .returned (.string ⟨(decL (g k).toNat).toArray⟩) ∧ Below v.heap.size v w') := fun v hv => decimal_any (g k) v hg0.1 (by omega) (tr.below hv)
    have KC := (Below.refl _ wr).alloc (Nat.le_refl _) (.cells #[.int .i64 (f k), .int .i64 (g k)] 63)
    have Cd : Blk (wr.alloc (.cells #[.int .i64 (f k), .int .i64 (g k)] 63)).drew wr.heap.size (.cells #[.int .i64 (f k), .int .i64 (g k)] 63) := Blk.new wr _
    have Id : Lib.IsBuilder 91 5 w1.heap.size w1.heap.size (Lib.byteCells (txt base (catsTo f g k))) (wr.alloc (.cells #[.int .i64 (f k), .int .i64 (g k)] 63)).drew := isBuilder_below I KC.drew
    have Kd : Below wr.heap.size wr (wr.alloc (.cells #[.int .i64 (f k), .int .i64 (g k)] 63)).drew := KC.drew
    clear hcc hc hf hg HE tr KC
    generalize hTe : txt base (catsTo f g k) = T at *
    generalize hE1 : decL (f k).toNat = D1 at *
    generalize hE2 : decL (g k).toNat = D2 at *
    generalize f k = fk at *
    generalize g k = gk at *
    have r1 : ¬ 9223372036854775807 < 1 + D1.length := by omega
    have r2 : ¬ 9223372036854775807 < 1 + D1.length + 1 := by omega
    have r3 : ¬ 9223372036854775807 < 1 + D1.length + 1 + D2.length := by omega
    have r4 : (Lib.byteCells T).length + (1 + D1.length + 1 + D2.length) ≤ 140737488355328 := by rw [Lib.byteCells_length]; omega
    clear hTe hE1 hE2 hD1 hD2 lk hf0 hg0
    have es : ((((⟨#[44]⟩ : ByteArray) ++ ⟨D1.toArray⟩) ++ ⟨#[58]⟩) ++ ⟨D2.toArray⟩) = ⟨(44 :: (D1 ++ 58 :: D2)).toArray⟩ := by
     have ea : (⟨#[44]⟩ : ByteArray) = ⟨[44].toArray⟩ := rfl
     have eb : (⟨#[58]⟩ : ByteArray) = ⟨[58].toArray⟩ := rfl
     rw [ea, eb, bytes_app, bytes_app, bytes_app]
     simp
    have HL : Hid ((Lib.byteCells T).length + ((((⟨#[44]⟩ : ByteArray) ++ ⟨D1.toArray⟩) ++ ⟨#[58]⟩) ++ ⟨D2.toArray⟩).size ≤ 140737488355328) := by
     show _ ≤ _
     rw [es, size_of]
     simp only [List.length_cons, List.length_append]
     omega
    have HES : Hid (((((⟨#[44]⟩ : ByteArray) ++ ⟨D1.toArray⟩) ++ ⟨#[58]⟩) ++ ⟨D2.toArray⟩) = ⟨(44 :: (D1 ++ 58 :: D2)).toArray⟩) := es
    clear es r4
    go_wp2_with fail
    go_region_held3 (fun w' => w'.cell? ⟨wr.heap.size, 0, none⟩ = some (.int .i64 fk) ∧ w'.cell? ⟨wr.heap.size, 1, none⟩ = some (.int .i64 gk)) (go_keep)
     (first
       | (go_at_call 45; have hq := hb8; refine (writeString_any w1.heap.size w1.heap.size _ _ _ I8 HL.out z8).mono ?_; rintro e w9 ⟨rfl, I9, hb9, kp9⟩; obtain ⟨t1, t2⟩ := Blk.two (kp9 _ _ _ (by decide) (by omega) C8))
       | (go_at_call 44; have hq := hb7; refine (P2.out _ K7).mono ?_; rintro e w8 ⟨rfl, hb8⟩; have C8 := C7.below hb8; have I8 := isBuilder_below I7 hb8; have z8 := Nat.le_of_lt (isBuilder_lt I8); obtain ⟨v1, v2⟩ := C8.two)
       | (go_at_call 44; refine (P1.out _ Kd).mono ?_; rintro e w7 ⟨rfl, hb7⟩; have C7 := Cd.below hb7; have K7 : Below wr.heap.size wr w7 := Kd.trans (hb7.mono Kd.size); have I7 := isBuilder_below Id hb7; obtain ⟨y1, y2⟩ := C7.two))
    have L9 : Below w.heap.size w w9 := (Lr.trans ((K7.trans (hb8.mono K7.size)).mono Lr.size)).trans (hb9.mono (by omega))
    have I9' : Lib.IsBuilder 91 5 w1.heap.size w1.heap.size (Lib.byteCells (txt base (catsTo f g (k + 1)))) w9 := by
     rw [HT.out, ← byte_app]
     rw [HES.out] at I9
     exact I9
    go_wp2
    go_roundw
    case rel => exact ⟨k + 1, by omega, by go_num, I9', L9, isBuilder_lt I9'⟩
    case measure => simp [intOf]; omega
   ·have hki : ¬ (k : Int) < (n : Int) := by omega
    obtain rfl : k = n := by omega
    go_wp2_with fail
    refine (Tryz.Builder_String_any w1.heap.size w1.heap.size _ _ I (by omega)).mono ?_
    rintro e w6 ⟨rfl, hb6⟩
    have L6 : Below w.heap.size w w6 := Lr.trans (hb6.mono (by omega))
    clear I hb6
    go_wp2
    go_ret
    exact ⟨by rw [HE.out]; rfl, L6⟩
end Go.Proofs.YthbmfbnnemgbpaaGreatDoor
namespace Go.Proofs.YthbmfbnnemgbpaaGreatDoor
open Go Go.RowKit Go.Deep Go.Maps
open Go.WideShapes (add_plain)
section
variable {t e size bytes : Nat} {z : Value} (hT : Tryz.prog.underlying t = some (.slice e)) (hI : (Tryz.prog.info? e).map (fun i => (i.zero, i.size, i.bytes)) = some (some z, size, bytes)) (hzs : z.cells.size = size) (hsz : 0 < size)
include hT hI hzs hsz
end
end Go.Proofs.YthbmfbnnemgbpaaGreatDoor
namespace Go.Proofs.YthbmfbnnemgbpaaGreatDoor
open Go Go.RowKit Go.Deep Go.Maps
open Go.WideShapes (add_plain)
def scells (l : List ByteArray) : List Value := l.map Value.string
def OwnS (w : World) (B : Nat) (v : Value) (l : List ByteArray) : Prop := w.ownsRow B 9 1 v l.length (scells l)
theorem OwnS.below {w w' : World} {B : Nat} {v : Value} {l : List ByteArray} (h : OwnS w B v l) (hb : Below w.heap.size w w') : OwnS w' B v l := by
 refine ⟨h.1, ?_⟩
 rcases h.2 with hn | ⟨g, cap, cur, hv, hbg, hg, rest⟩
 ·exact .inl hn
 ·exact .inr ⟨g, cap, cur, hv, hbg, (hb.block g (Array.getElem?_eq_some_iff.1 hg).1).trans hg, rest⟩
theorem OwnS.alloc {w : World} {B : Nat} {v : Value} {l : List ByteArray} (h : OwnS w B v l) (o : Obj) : OwnS (w.alloc o) B v l := World.ownsRow.alloc h o
theorem one_str {w : World} (x : ByteArray) : LiesC (w.alloc (.cells #[.string x] 9)) (some ⟨w.heap.size, 0, none⟩) 1 [.string x] := fun _ =>
 ⟨w.heap.size, 0, rfl, by simp, fun j u hu => by
   cases j with
   | zero => simp at hu; subst hu; simp
   | succ j => simp at hu⟩
theorem three_str {w : World} (x y z : ByteArray) : LiesC (w.alloc (.cells #[.string x, .string y, .string z] 9)) (some ⟨w.heap.size, 0, none⟩) 3 [.string x, .string y, .string z] := fun _ =>
 ⟨w.heap.size, 0, rfl, by simp, fun j u hu => by
   match j with
   | 0 => simp at hu; subst hu; simp
   | 1 => simp at hu; subst hu; simp
   | 2 => simp at hu; subst hu; simp
   | j + 3 => simp at hu⟩
theorem wpList_append_str {ops : Array Oper} {rest : List Oper} {o : Oper} {a : Act} {Q : Exit → Act → World → Prop} (w : World) (hgd : o.guard = none) (s x : Operand)
 (ho : o.op = .call { callee := .builtin .append, args := #[s, x], argTypes := #[44, 44] })
 (B : Nat) (v : Value) (l : List ByteArray) (hs : a.eval s = v) (hown : OwnS w B v l) (ad : Option Addr) (c : Nat) (r : ByteArray) (hx : a.eval x = .slice ad 1 c) (hc : LiesC w ad 1 [.string r])
 (hm : l.length ≤ 2000000) (hB : B ≤ w.heap.size)
 (h : ∀ g c' w', OwnS w' B (.slice (some ⟨g, 0, none⟩) (l ++ [r]).length c') (l ++ [r]) → w.grownBy w' v.ownBlock → wpList Tryz.prog ops Q rest (a.put o.dst (.slice (some ⟨g, 0, none⟩) (l ++ [r]).length c')) w') : wpList Tryz.prog ops Q (o :: rest) a w := by
 refine wpList_plain hgd fun _ hK => wp_append_gen Tryz.underlying44 Tryz.info9 rfl (by omega) w s x ho B v l.length _ hs hown ad 1 c [.string r] hx (by simp) hc (fun u hu => by simp at hu; subst hu; rfl) (by omega) (by omega) hB fun a' c' w' h2 h3 _ => hK _ _ ?_
 have e1 : scells l ++ [Value.string r] = scells (l ++ [r]) := by simp [scells]
 have e2 : l.length + 1 = (l ++ [r]).length := by simp
 rw [e1] at h2
 obtain ⟨g, cap, hv, _, _⟩ := World.ownsRow.form h2 (by omega)
 simp only [Value.slice.injEq] at hv
 obtain ⟨rfl, _, _⟩ := hv
 rw [e2] at h2 ⊢
 exact h g c' w' h2 h3
theorem step_append3 {ops : Array Oper} {o : Oper} {a : Act} {w : World} {K : Act → World → Prop} {Q : Exit → Act → World → Prop} {E : Prop} (hgd : o.guard = none) (s x : Operand)
 (ho : o.op = .call { callee := .builtin .append, args := #[s, x], argTypes := #[44, 44] })
 (B : Nat) (v : Value) (l : List ByteArray) (hs : a.eval s = v) (hown : OwnS w B v l) (ad : Option Addr) (c : Nat) (r1 r2 r3 : ByteArray) (hx : a.eval x = .slice ad 3 c) (hc : LiesC w ad 3 [.string r1, .string r2, .string r3])
 (hm : l.length ≤ 2000000) (hB : B ≤ w.heap.size)
 (h : ∀ g c' w', OwnS w' B (.slice (some ⟨g, 0, none⟩) (l ++ [r1, r2, r3]).length c') (l ++ [r1, r2, r3]) → w.grownBy w' v.ownBlock → K (a.put o.dst (.slice (some ⟨g, 0, none⟩) (l ++ [r1, r2, r3]).length c')) w') :
 if Region.wanted o (yielded ops a.tmps) = true then Oper.wp Tryz.prog o a w K Q else E := by
 have hw : Region.wanted o (yielded ops a.tmps) = true := by simp [Region.wanted, hgd]
 rw [if_pos hw]
 refine wp_append_gen Tryz.underlying44 Tryz.info9 rfl (by omega) w s x ho B v l.length _ hs hown ad 3 c [.string r1, .string r2, .string r3] hx (by simp) hc (fun u hu => by simp at hu; rcases hu with rfl | rfl | rfl <;> rfl) (by omega) (by omega) hB fun a' c' w' h2 h3 _ => ?_
 have e1 : scells l ++ [Value.string r1, Value.string r2, Value.string r3] = scells (l ++ [r1, r2, r3]) := by simp [scells]
 have e2 : l.length + 3 = (l ++ [r1, r2, r3]).length := by simp
 rw [e1] at h2
 obtain ⟨g, cap, hv, _, _⟩ := World.ownsRow.form h2 (by omega)
 simp only [Value.slice.injEq] at hv
 obtain ⟨rfl, _, _⟩ := hv
 rw [e2] at h2 ⊢
 exact h g c' w' h2 h3
def decB (x : Int) : ByteArray := ⟨(decL x.toNat).toArray⟩
theorem dec_any (x : Int) (w : World) (h0 : 0 ≤ x) (h1 : x ≤ 10000000000) (ht : Tab w) : Calls Tryz.prog 44 #[.int .i64 x] w fun e w' => e = .returned (.string (decB x)) ∧ Below w.heap.size w w' := decimal_any x w h0 h1 ht
set_option maxRecDepth 100000 in
set_option maxHeartbeats 1000000 in
theorem decimals_any (b n cap : Nat) (f : Nat → Int) (w : World) (hn : n ≤ 1000) (hb : b < w.heap.size) (hc : ∀ i, i < n → w.cell? ⟨b, i, none⟩ = some (.int .i64 (f i))) (hr : ∀ i, i < n → 0 ≤ f i ∧ f i ≤ 10000000000) (ht : Tab w) :
 Calls Tryz.prog 16 #[.slice (some ⟨b, 0, none⟩) n cap] w fun e w' => ∃ a c, e = .returned (.slice a n c) ∧ OwnS w' w.heap.size (.slice a n c) ((List.range n).map fun i => decB (f i)) ∧ Below w.heap.size w w' := by
 have HC := hid hc
 have HR := hid hr
 have HT := hid ht
 clear hc hr ht
 go_enter Tryz.func16, Tryz.ntmps16
 go_wp2
 go_loopw [3, 8] (fun v i wr => ∃ k : Nat, k ≤ n ∧ i = .int .i64 k ∧ (∃ a c, v = .slice a k c) ∧ OwnS wr w.heap.size v ((List.range k).map fun i => decB (f i)) ∧ Below w.heap.size w wr) (fun _ i _ => n - (intOf i).toNat)
 case atStart => exact ⟨0, Nat.zero_le _, rfl, ⟨_, _, rfl⟩, World.ownsRow_nil _ _ _ _, Below.refl _ _⟩
 case round =>
  obtain ⟨k, hk, rfl, ⟨a, c, rfl⟩, hO, hB⟩ := hrel
  have OO := hid hO
  clear hO
  by_cases hlt : k < n
  ·have c1 : wr.cell? ⟨b, k, none⟩ = some (.int .i64 (f k)) := (hB.cell (p := ⟨b, k, none⟩) hb).trans (HC.out k hlt)
   obtain ⟨r0, r1⟩ := HR.out k hlt
   have D := hid (dec_any (f k) wr r0 r1 (HT.out.below hB))
   have i1 : (k : Int) < (n : Int) := by omega
   have EX : Hid (((List.range k).map fun i => decB (f i)) ++ [decB (f k)] = (List.range (k + 1)).map fun i => decB (f i)) := by show _ = _; rw [List.range_succ, List.map_append]; rfl
   have lm : ((List.range k).map fun i => decB (f i)).length = k := by simp
   generalize ((List.range k).map fun i => decB (f i)) = L at *
   generalize decB (f k) = X at *
   have lm2 : L.length ≤ 2000000 := by omega
   go_wp2_with (first
    | (go_at_call 44; refine D.out.mono ?_; rintro e w3 ⟨rfl, h3⟩; have HO3 := hid ((OO.out.below h3).alloc (.cells #[.string X] 9)); have HL3 := hid (one_str (w := w3) X); have sz3 := hid (Nat.le_trans (then_ hB h3).size (show w3.heap.size ≤ (w3.alloc (.cells #[.string X] 9)).heap.size by rw [World.size_alloc]; exact Nat.le_succ _)))
    | (at_builtin; refine wpList_append_str _ rfl _ _ rfl w.heap.size _ L rfl HO3.out _ 1 X rfl HL3.out lm2 sz3.out ?_; intro g4 c4 w4 O4 hg4; have OX4 := hid O4; have GX4 := hid hg4; clear O4 hg4))
   have B3 := then_ hB h3
   have B4 : Below w.heap.size w w4 := (B3.alloc B3.size (.cells #[.string X] 9)).trans (below_grown GX4.out sz3.out (fun j hj => (World.ownsRow.lt HO3.out j hj).1))
   have el : (L ++ [X]).length = k + 1 := by simp [lm]
   have OF := OX4.out
   rw [el, EX.out] at OF
   exact ⟨⟨k + 1, by omega, rfl, ⟨_, c4, rfl⟩, OF, B4⟩, by simp [intOf]; omega⟩
  ·have ek : k = n := by omega
   subst ek
   go_wp2
   go_ret
   exact ⟨a, c, rfl, OO.out, hB⟩
end Go.Proofs.YthbmfbnnemgbpaaGreatDoor
