/- ReadKernel of the model: a text more in the last object, where the region draws. -/
import Derived.Test.YtjceaajnemgheaaGreatDoorRS2
import Derived.Test.YtjceaajnemgheaaGreatDoorZ30
namespace Go.Proofs.YtjceaajnemgheaaGreatDoor
open Go Go.RowKit Go.Deep Go.Maps Go.BigFrame Go.Shelf

theorem step_append_strS {ops : Array Oper} {oo : Oper} {a : Act} {w : World} {K : Act → World → Prop} {Q : Exit → Act → World → Prop} {E : Prop} (hgd : oo.guard = none) (s x : Operand)
    (ho : oo.op = .call { callee := .builtin .append, args := #[s, x], argTypes := #[33, 33] })
    (B : Nat) (v : Value) (l : List (List UInt8)) (hs : a.eval s = v) (hown : OwnS w B v l) (ad : Option Addr) (c : Nat) (r : List UInt8) (hx : a.eval x = .slice ad 1 c) (hc : LiesC w ad 1 [.string (bytesOf r)])
    (hm : l.length ≤ 2000000) (hB : B ≤ w.heap.size) (d : Option Nat) (hd : oo.dst = d)
    (h : ∀ g c' w', OwnS w' B (.slice (some ⟨g, 0, none⟩) (l.length + 1) c') (l ++ [r]) → w.grownBy w' v.ownBlock → K (a.put d (.slice (some ⟨g, 0, none⟩) (l.length + 1) c')) w') :
    if Region.wanted oo (yielded ops a.tmps) = true then Oper.wp Tryz.prog oo a w K Q else E := by
  subst hd
  have hw : Region.wanted oo (yielded ops a.tmps) = true := by simp [Region.wanted, hgd]
  rw [if_pos hw]
  obtain ⟨a', c', w', hr, h2, h3, _⟩ := run_append_gen Tryz.underlying33 Tryz.info9 rfl (by omega) w oo.type B v l.length (scells l) hown ad 1 c [.string (bytesOf r)] (by simp) hc (fun u hu => by simp at hu; subst hu; rfl) (by omega) (by omega) hB
  unfold Oper.wp execOp
  simp only [ho, resolve, invoke, builtin, Sem.run_bind, Sem.run_pure, Result.andThen_ok, List.map_toArray, List.map_cons, List.map_nil, hs, hx, hr]
  have e1 : scells l ++ [Value.string (bytesOf r)] = scells (l ++ [r]) := by simp [scells]
  have e2 : (l ++ [r]).length = l.length + 1 := by simp
  rw [e1] at h2
  obtain ⟨g, cap, hv, _, _⟩ := World.ownsRow.form h2 (by omega)
  simp only [Value.slice.injEq] at hv
  obtain ⟨rfl, _, _⟩ := hv
  exact h g c' w' (by unfold OwnS; rw [e2]; exact h2) h3
theorem kept9 {w w' : World} {B k : Nat} {v : Value} {l : List (List UInt8)} {cs : Array Value} {t : TypeId} (hO : OwnS w B v l) (hg : w.grownBy w' v.ownBlock) (hk : w.heap[k]? = some (Obj.cells cs t (0, 0))) (ht : t ≠ 9) : w'.heap[k]? = w.heap[k]? := hg.block k (Array.getElem?_eq_some_iff.1 hk).1 (fun e => by
    rcases hO.2 with ⟨hv, _⟩ | ⟨g', cap', cur', hv', _, hgg', _⟩
    · rw [hv] at e; cases e
    · rw [hv'] at e
      cases e
      rw [hgg'] at hk
      simp only [Option.some.injEq, Obj.cells.injEq, and_true] at hk
      exact ht hk.2.symm)
set_option maxRecDepth 1000000 in
set_option maxHeartbeats 16000000 in
theorem itmReg25 (K g n co i M : Nat) (vt iv : Value) (l : List UInt8) (its : List (List UInt8)) (row : Array Value) (u0 u1 u2 u3 u5 u6 u7 u8 u9 u11 u12 u14 u15 u16 u17 u18 u19 u20 u21 u22 u23 u24 u25 u26 u27 u28 u29 u30 u31 u32 u33 u34 u35 u36 u37 u38 u39 u40 u41 u42 u43 u44 u45 u46 u47 u48 u49 u50 u51 u52 u53 u54 u55 u56 u57 u58 u59 u60 u61 u62 u63 u64 u65 u66 u67 u68 u69 u70 u71 u72 u73 u74 u75 u76 u77 u78 u79 u80 u81 u82 u83 u84 u85 u86 u87 u88 u89 u90 u91 u92 u93 u94 u95 u96 u97 u98 u99 u100 u101 u102 u103 u104 u105 u106 u107 u108 u109 u110 u111 u112 u113 u114 u115 u116 u117 u118 u119 u120 u121 u122 u123 u124 u125 u126 u127 u128 u129 u130 u131 u132 u133 u134 u135 u136 u137 u138 u139 u140 u141 u142 u143 u144 u145 u146 u147 u148 u149 u150 u151 u152 u153 u154 u155 u156 u157 u158 u159 u160 u161 u162 u163 u164 u165 u166 u167 u168 u169 u170 u171 u172 u173 u174 u175 u176 u177 u178 u179 u180 u181 u182 u183 u184 : Value) (V : World) (Q : Exit → Act → World → Prop) (hp : ∀ c a d v w, Q (.panic c) (Act.put a (some d) v) w → Q (.panic c) a w)
    (hi : i < n) (hK : Blk V K (.cells #[vt, .slice (some ⟨g, 0, none⟩) n co] 25)) (hG : Blk V g (.cells row 45)) (hI : V.cell? ⟨g, i * 10 + 6, none⟩ = some iv) (hO : OwnS V M iv its) (hM : M ≤ V.heap.size) (hl : its.length ≤ 2000000)
    (hQ : ∀ (q c : Nat) (z161 z162 z163 z164 z165 z166 z167 z168 z169 z170 z171 z172 z173 z174 : Value) (W1 W2 : World), Below V.heap.size V W1 → W1.grownBy W2 iv.ownBlock → OwnS W2 M (.slice (some ⟨q, 0, none⟩) (its.length + 1) c) (its ++ [l]) → Q .normal ⟨#[u0, u1, u2, u3, .pointer (some ⟨K, 0, none⟩), u5, u6, u7, u8, u9, .string (bytesOf l), u11, u12, .int .i64 (i : Int), u14, u15, u16, u17, u18, u19, u20, u21, u22, u23, u24, u25, u26, u27, u28, u29, u30, u31, u32, u33, u34, u35, u36, u37, u38, u39, u40, u41, u42, u43, u44, u45, u46, u47, u48, u49, u50, u51, u52, u53, u54, u55, u56, u57, u58, u59, u60, u61, u62, u63, u64, u65, u66, u67, u68, u69, u70, u71, u72, u73, u74, u75, u76, u77, u78, u79, u80, u81, u82, u83, u84, u85, u86, u87, u88, u89, u90, u91, u92, u93, u94, u95, u96, u97, u98, u99, u100, u101, u102, u103, u104, u105, u106, u107, u108, u109, u110, u111, u112, u113, u114, u115, u116, u117, u118, u119, u120, u121, u122, u123, u124, u125, u126, u127, u128, u129, u130, u131, u132, u133, u134, u135, u136, u137, u138, u139, u140, u141, u142, u143, u144, u145, u146, u147, u148, u149, u150, u151, u152, u153, u154, u155, u156, u157, u158, u159, u160, z161, z162, z163, z164, z165, z166, z167, z168, z169, z170, z171, z172, z173, z174, u175, u176, u177, u178, u179, u180, u181, u182, u183, u184], []⟩ (W2.setCell ⟨g, i * 10 + 6, none⟩ (.slice (some ⟨q, 0, none⟩) (its.length + 1) c))) :
    Code.wp Tryz.prog (Code.region 25 #[{ dst := some 161, op := Op.fieldAddr 25 (Operand.tmp 4) 1, type := 0, pos := "l10_texts.go:110", after := #[], guard := none }, { dst := some 162, op := Op.load 23 (Operand.tmp 161), type := 23, pos := "l10_texts.go:110", after := #[{ on := 0, ground := Ground.data }], guard := none }, { dst := some 163, op := Op.move (Operand.tmp 13), type := 3, pos := "l10_texts.go:110", after := #[], guard := none }, { dst := some 164, op := Op.fieldAddr 25 (Operand.tmp 4) 1, type := 0, pos := "l10_texts.go:110", after := #[], guard := none }, { dst := some 165, op := Op.load 23 (Operand.tmp 164), type := 23, pos := "l10_texts.go:110", after := #[{ on := 3, ground := Ground.data }], guard := none }, { dst := some 166, op := Op.move (Operand.tmp 13), type := 3, pos := "l10_texts.go:110", after := #[], guard := none }, { dst := some 167, op := Op.indexAddr 23 (Operand.tmp 165) (Operand.tmp 166), type := 0, pos := "l10_texts.go:110", after := #[{ on := 4, ground := Ground.data }, { on := 5, ground := Ground.data }], guard := none }, { dst := some 168, op := Op.fieldAddr 45 (Operand.tmp 167) 5, type := 0, pos := "l10_texts.go:110", after := #[{ on := 6, ground := Ground.data }], guard := none }, { dst := some 169, op := Op.load 33 (Operand.tmp 168), type := 33, pos := "l10_texts.go:110", after := #[{ on := 7, ground := Ground.data }], guard := none }, { dst := some 170, op := Op.move (Operand.tmp 10), type := 9, pos := "l10_texts.go:110", after := #[], guard := none }, { dst := some 171, op := Op.buildSlice 33 1 #[(0, Operand.tmp 170)], type := 33, pos := "l10_texts.go:110", after := #[{ on := 9, ground := Ground.data }], guard := none }, { dst := some 172, op := Op.call { callee := Callee.builtin Builtin.append, args := #[Operand.tmp 169, Operand.tmp 171], argTypes := #[33, 33] }, type := 33, pos := "l10_texts.go:110", after := #[{ on := 8, ground := Ground.data }, { on := 10, ground := Ground.data }], guard := none }, { dst := some 173, op := Op.indexAddr 23 (Operand.tmp 162) (Operand.tmp 163), type := 0, pos := "l10_texts.go:110", after := #[{ on := 1, ground := Ground.data }, { on := 2, ground := Ground.data }, { on := 0, ground := Ground.phase }, { on := 1, ground := Ground.phase }, { on := 2, ground := Ground.phase }, { on := 3, ground := Ground.phase }, { on := 4, ground := Ground.phase }, { on := 5, ground := Ground.phase }, { on := 6, ground := Ground.phase }, { on := 7, ground := Ground.phase }, { on := 8, ground := Ground.phase }, { on := 9, ground := Ground.phase }, { on := 10, ground := Ground.phase }, { on := 11, ground := Ground.phase }], guard := none }, { dst := some 174, op := Op.fieldAddr 45 (Operand.tmp 173) 5, type := 0, pos := "l10_texts.go:110", after := #[{ on := 12, ground := Ground.data }, { on := 0, ground := Ground.phase }, { on := 1, ground := Ground.phase }, { on := 2, ground := Ground.phase }, { on := 3, ground := Ground.phase }, { on := 4, ground := Ground.phase }, { on := 5, ground := Ground.phase }, { on := 6, ground := Ground.phase }, { on := 7, ground := Ground.phase }, { on := 8, ground := Ground.phase }, { on := 9, ground := Ground.phase }, { on := 10, ground := Ground.phase }, { on := 11, ground := Ground.phase }], guard := none }, { dst := none, op := Op.store 33 (Operand.tmp 174) (Operand.tmp 172), type := 0, pos := "l10_texts.go:110", after := #[{ on := 13, ground := Ground.data }, { on := 11, ground := Ground.data }, { on := 11, ground := Ground.chain }, { on := 0, ground := Ground.phase }, { on := 1, ground := Ground.phase }, { on := 2, ground := Ground.phase }, { on := 3, ground := Ground.phase }, { on := 4, ground := Ground.phase }, { on := 5, ground := Ground.phase }, { on := 6, ground := Ground.phase }, { on := 7, ground := Ground.phase }, { on := 8, ground := Ground.phase }, { on := 9, ground := Ground.phase }, { on := 10, ground := Ground.phase }, { on := 11, ground := Ground.phase }], guard := none }] true) Q ⟨#[u0, u1, u2, u3, .pointer (some ⟨K, 0, none⟩), u5, u6, u7, u8, u9, .string (bytesOf l), u11, u12, .int .i64 (i : Int), u14, u15, u16, u17, u18, u19, u20, u21, u22, u23, u24, u25, u26, u27, u28, u29, u30, u31, u32, u33, u34, u35, u36, u37, u38, u39, u40, u41, u42, u43, u44, u45, u46, u47, u48, u49, u50, u51, u52, u53, u54, u55, u56, u57, u58, u59, u60, u61, u62, u63, u64, u65, u66, u67, u68, u69, u70, u71, u72, u73, u74, u75, u76, u77, u78, u79, u80, u81, u82, u83, u84, u85, u86, u87, u88, u89, u90, u91, u92, u93, u94, u95, u96, u97, u98, u99, u100, u101, u102, u103, u104, u105, u106, u107, u108, u109, u110, u111, u112, u113, u114, u115, u116, u117, u118, u119, u120, u121, u122, u123, u124, u125, u126, u127, u128, u129, u130, u131, u132, u133, u134, u135, u136, u137, u138, u139, u140, u141, u142, u143, u144, u145, u146, u147, u148, u149, u150, u151, u152, u153, u154, u155, u156, u157, u158, u159, u160, u161, u162, u163, u164, u165, u166, u167, u168, u169, u170, u171, u172, u173, u174, u175, u176, u177, u178, u179, u180, u181, u182, u183, u184], []⟩ V := by
  have V0 : Below V.heap.size V V.drew := (Below.refl _ V).drew
  have i0 : (0 : Int) ≤ (i : Int) := by omega
  have i1 : (i : Int) < (n : Int) := by omega
  have hgl := hG.lt
  refine wp_region_G 14 (fun W => Blk W K (.cells #[vt, .slice (some ⟨g, 0, none⟩) n co] 25) ∧ W.cell? ⟨g, i * 10 + 6, none⟩ = some iv) (by kernel_rfl) ?_
  have K0 := hK.below V0
  have G0 := hG.below V0
  have C0 : V.drew.cell? ⟨g, i * 10 + 6, none⟩ = some iv := (V0.cell (p := ⟨g, i * 10 + 6, none⟩) hgl).trans hI
  have O0 := hO.below V0
  have M0 : M ≤ V.drew.heap.size := Nat.le_trans hM V0.size
  generalize V.drew = w0 at *
  refine tq 0 161 (.pointer (some ⟨K, 1, none⟩)) ⟨K0, C0⟩ ?_ (hQ := fun c a w h => hp c a _ _ w h)
  simp only [ap, List.set]
  refine tq 1 162 (.slice (some ⟨g, 0, none⟩) n co) ⟨K0, C0⟩ ?_ (hy := fun W h => by obtain ⟨y0, y1⟩ := h.1.two; go_simp) (hQ := fun c a w h => hp c a _ _ w h)
  simp only [ap, List.set]
  refine tq 2 163 (.int .i64 (i : Int)) ⟨K0, C0⟩ ?_ (hQ := fun c a w h => hp c a _ _ w h)
  simp only [ap, List.set]
  refine tq 3 164 (.pointer (some ⟨K, 1, none⟩)) ⟨K0, C0⟩ ?_ (hQ := fun c a w h => hp c a _ _ w h)
  simp only [ap, List.set]
  refine tq 4 165 (.slice (some ⟨g, 0, none⟩) n co) ⟨K0, C0⟩ ?_ (hy := fun W h => by obtain ⟨y0, y1⟩ := h.1.two; go_simp) (hQ := fun c a w h => hp c a _ _ w h)
  simp only [ap, List.set]
  refine tq 5 166 (.int .i64 (i : Int)) ⟨K0, C0⟩ ?_ (hQ := fun c a w h => hp c a _ _ w h)
  simp only [ap, List.set]
  refine tq 6 167 (.pointer (some ⟨g, i * 10, none⟩)) ⟨K0, C0⟩ ?_ (hQ := fun c a w h => hp c a _ _ w h)
  simp only [ap, List.set]
  refine tq 7 168 (.pointer (some ⟨g, i * 10 + 6, none⟩)) ⟨K0, C0⟩ ?_ (hQ := fun c a w h => hp c a _ _ w h)
  simp only [ap, List.set]
  refine tq 8 169 (iv) ⟨K0, C0⟩ ?_ (hy := fun W h => by have cc := h.2; go_simp) (hQ := fun c a w h => hp c a _ _ w h)
  simp only [ap, List.set]
  refine tq 9 170 (.string (bytesOf l)) ⟨K0, C0⟩ ?_ (hQ := fun c a w h => hp c a _ _ w h)
  simp only [ap, List.set]
  refine wpAnyG_one (i := 10) (by kernel_rfl) rfl ?_
  intro KK hKK
  have B1 := V0.alloc V0.size (.cells #[.string (bytesOf l)] 9)
  have K1 := K0.alloc (.cells #[.string (bytesOf l)] 9)
  have G1 := G0.alloc (.cells #[.string (bytesOf l)] 9)
  have C1 : (w0.alloc (.cells #[.string (bytesOf l)] 9)).cell? ⟨g, i * 10 + 6, none⟩ = some iv := (((Below.refl _ w0).alloc (Nat.le_refl _) (.cells #[.string (bytesOf l)] 9)).cell (p := ⟨g, i * 10 + 6, none⟩) G0.lt).trans C0
  have O1 := O0.alloc (.cells #[.string (bytesOf l)] 9)
  have L1 := one_str (w := w0) (bytesOf l)
  have M1 : M ≤ (w0.alloc (.cells #[.string (bytesOf l)] 9)).heap.size := Nat.le_trans M0 (by simp)
  go_simp
  refine hKK.out _ _ (fun _ => ⟨K1, C1⟩) ?_
  clear hKK KK
  try simp only [ap, List.set]
  generalize w0.alloc (.cells #[.string (bytesOf l)] 9) = w1 at *
  refine wpAnyG_one (i := 11) (by kernel_rfl) rfl ?_
  intro KK hKK
  refine step_append_strS (by rfl) _ _ (by rfl) M iv its (by rfl) O1 _ 1 l (by rfl) L1 hl M1 (some 172) (by rfl) ?_
  intro q c w2 O2 g2
  have K2 : Blk w2 K (.cells #[vt, .slice (some ⟨g, 0, none⟩) n co] 25) := (kept9 O1 g2 K1 (by decide)).trans K1
  have G2 : Blk w2 g (.cells row 45) := (kept9 O1 g2 G1 (by decide)).trans G1
  have C2 : w2.cell? ⟨g, i * 10 + 6, none⟩ = some iv := by
    rw [← C1]
    unfold World.cell?
    rw [show w2.heap[g]? = w1.heap[g]? from kept9 O1 g2 G1 (by decide)]
  refine hKK.out _ _ (fun _ => ⟨K2, C2⟩) ?_
  clear hKK KK
  simp only [ap, List.set]
  refine wpAnyG_one (i := 12) (by kernel_rfl) rfl ?_
  intro KK hKK
  go_simp
  refine hKK.out _ _ (fun _ => ⟨K2, C2⟩) ?_
  clear hKK KK
  try simp only [ap, List.set]
  refine wpAnyG_one (i := 13) (by kernel_rfl) rfl ?_
  intro KK hKK
  go_simp
  refine hKK.out _ _ (fun _ => ⟨K2, C2⟩) ?_
  clear hKK KK
  try simp only [ap, List.set]
  refine wpAnyG_one (i := 14) (by kernel_rfl) rfl ?_
  intro KK hKK
  have wf := G2.warm
  go_simp
  refine hKK.out _ _ (fun h => absurd h (by decide)) ?_
  clear hKK KK
  refine wpAnyG_done (by kernel_rfl) ?_ _
  exact hQ q c _ _ _ _ _ _ _ _ _ _ _ _ _ _ w1 w2 B1 g2 O2
end Go.Proofs.YtjceaajnemgheaaGreatDoor
