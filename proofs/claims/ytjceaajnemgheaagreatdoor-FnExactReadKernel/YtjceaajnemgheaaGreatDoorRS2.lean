/- ReadKernel of the model: the regions that draw. -/
import Derived.Test.YtjceaajnemgheaaGreatDoorZ29
import Derived.Test.YtjceaajnemgheaaGreatDoorZ33
namespace Go.Proofs.YtjceaajnemgheaaGreatDoor
open Go Go.RowKit Go.Deep Go.Maps Go.BigFrame Go.Shelf

section
variable {P : Program} {ops : Array Oper} {Q : Exit → Act → World → Prop} {md : Region.Mode} {S S' : World → Prop} {m : Nat}
theorem wpAnyG_up (hS : ∀ W, S' W → S W) : ∀ (fuel : Nat) (listed : Array Bool) (a : Act) (w : World), wpAnyG P md ops Q S' m fuel listed a w → wpAnyG P md ops Q S m fuel listed a w
  | 0, _, _, _, h => h
  | fuel + 1, _, _, _, h => ⟨h.1, fun i hi => wpOp_mono (fun a' w' h' => ⟨fun e => hS _ (h'.1 e), wpAnyG_up hS fuel _ a' w' h'.2⟩) (h.2 i hi)⟩
theorem wpAnyG_two {i j : Nat} {o o' : Oper} {fuel : Nat} {listed : Array Bool} {a : Act} {w : World} (hr : Region.ready md ops listed = [i, j]) (ho : ops[i]? = some o) (ho' : ops[j]? = some o')
    (h : ∀ K' : Act → World → Prop, Shut (∀ a w, ((listed.setIfInBounds i true).getD m false = false → S w) → wpAnyG P md ops Q S m fuel (listed.setIfInBounds i true) a w → K' a w) → if Region.wanted o (yielded ops a.tmps) = true then Oper.wp P o a w K' Q else K' (a.put o.dst undef) w)
    (h' : ∀ K' : Act → World → Prop, Shut (∀ a w, ((listed.setIfInBounds j true).getD m false = false → S w) → wpAnyG P md ops Q S m fuel (listed.setIfInBounds j true) a w → K' a w) → if Region.wanted o' (yielded ops a.tmps) = true then Oper.wp P o' a w K' Q else K' (a.put o'.dst undef) w) :
    wpAnyG P md ops Q S m (fuel + 1) listed a w :=
  ⟨fun h0 => (by rw [hr] at h0; cases h0), fun k hk => by
    rw [hr] at hk
    rcases List.mem_cons.1 hk with rfl | hk
    · exact wpOp_step ho (fun K' hK => h K' (fun a w hS hW => hK a w ⟨hS, hW⟩))
    · obtain rfl := List.mem_singleton.1 hk
      exact wpOp_step ho' (fun K' hK => h' K' (fun a w hS hW => hK a w ⟨hS, hW⟩))⟩
end
theorem OwnN.other {w : World} {B P i : Nat} {v : Value} {l : List Int} (h : OwnN w B v l) (hne : ¬ v.ownBlock = some P) (x : Value) : OwnN (w.setCell ⟨P, i, none⟩ x) B v l := by
  refine ⟨h.1, ?_⟩
  rcases h.2 with hn | ⟨g, cap, cur, hv, hbg, hgg, rest⟩
  · exact .inl hn
  · exact .inr ⟨g, cap, cur, hv, hbg, (Below.heap_setCell _ _ _ _ (fun e => hne (by rw [hv]; show some g = some P; rw [e]))).trans hgg, rest⟩
def setsC (w : World) (P : Nat) : List (Nat × Value) → World
  | [] => w
  | (i, v) :: l => setsC (w.setCell ⟨P, i, none⟩ v) P l
theorem OwnN.others {B P : Nat} {v : Value} {l : List Int} (hne : ¬ v.ownBlock = some P) : ∀ (cs : List (Nat × Value)) (w : World), OwnN w B v l → OwnN (setsC w P cs) B v l
  | [], _, h => h
  | (_, x) :: cs, _, h => OwnN.others hne cs _ (h.other hne x)
theorem Below.sets {V : World} {B P : Nat} (hP : B ≤ P) : ∀ (cs : List (Nat × Value)) (w : World), Below B V w → Below B V (setsC w P cs)
  | [], _, h => h
  | (_, x) :: cs, _, h => Below.sets hP cs _ (h.setCell hP x)
def setL (cs : Array Value) : List (Nat × Value) → Array Value
  | [] => cs
  | (i, v) :: l => setL (cs.setIfInBounds i v) l
theorem Blk.sets {P t : Nat} : ∀ (l : List (Nat × Value)) (W : World) (cs : Array Value), Blk W P (.cells cs t) → Blk (setsC W P l) P (.cells (setL cs l) t)
  | [], _, _, h => h
  | (_, v) :: l, _, _, h => Blk.sets l _ _ (h.setAt v)
theorem Blk.st7 {W : World} {P t : Nat} {z0 z1 z2 z3 z4 z5 z6 : Value} (h : Blk W P (.cells #[z0, z1, z2, z3, z4, z5, z6] t)) (x0 x1 x2 x3 x4 x5 x6 : Value) : Blk (setsC W P [(0, x0), (1, x1), (2, x2), (3, x3), (4, x4), (5, x5), (6, x6)]) P (.cells #[x0, x1, x2, x3, x4, x5, x6] t) := by
  have h0 : Blk _ P (.cells #[x0, z1, z2, z3, z4, z5, z6] t) := h.setAt (i := 0) x0
  have h1 : Blk _ P (.cells #[x0, x1, z2, z3, z4, z5, z6] t) := h0.setAt (i := 1) x1
  have h2 : Blk _ P (.cells #[x0, x1, x2, z3, z4, z5, z6] t) := h1.setAt (i := 2) x2
  have h3 : Blk _ P (.cells #[x0, x1, x2, x3, z4, z5, z6] t) := h2.setAt (i := 3) x3
  have h4 : Blk _ P (.cells #[x0, x1, x2, x3, x4, z5, z6] t) := h3.setAt (i := 4) x4
  have h5 : Blk _ P (.cells #[x0, x1, x2, x3, x4, x5, z6] t) := h4.setAt (i := 5) x5
  have h6 : Blk _ P (.cells #[x0, x1, x2, x3, x4, x5, x6] t) := h5.setAt (i := 6) x6
  exact h6
theorem Blk.st10 {W : World} {P t : Nat} {z0 z1 z2 z3 z4 z5 z6 z7 z8 z9 : Value} (h : Blk W P (.cells #[z0, z1, z2, z3, z4, z5, z6, z7, z8, z9] t)) (x0 x1 x2 x3 x4 x5 x6 x7 x8 x9 : Value) : Blk (setsC W P [(0, x0), (1, x1), (2, x2), (3, x3), (4, x4), (5, x5), (6, x6), (7, x7), (8, x8), (9, x9)]) P (.cells #[x0, x1, x2, x3, x4, x5, x6, x7, x8, x9] t) := by
  have h0 : Blk _ P (.cells #[x0, z1, z2, z3, z4, z5, z6, z7, z8, z9] t) := h.setAt (i := 0) x0
  have h1 : Blk _ P (.cells #[x0, x1, z2, z3, z4, z5, z6, z7, z8, z9] t) := h0.setAt (i := 1) x1
  have h2 : Blk _ P (.cells #[x0, x1, x2, z3, z4, z5, z6, z7, z8, z9] t) := h1.setAt (i := 2) x2
  have h3 : Blk _ P (.cells #[x0, x1, x2, x3, z4, z5, z6, z7, z8, z9] t) := h2.setAt (i := 3) x3
  have h4 : Blk _ P (.cells #[x0, x1, x2, x3, x4, z5, z6, z7, z8, z9] t) := h3.setAt (i := 4) x4
  have h5 : Blk _ P (.cells #[x0, x1, x2, x3, x4, x5, z6, z7, z8, z9] t) := h4.setAt (i := 5) x5
  have h6 : Blk _ P (.cells #[x0, x1, x2, x3, x4, x5, x6, z7, z8, z9] t) := h5.setAt (i := 6) x6
  have h7 : Blk _ P (.cells #[x0, x1, x2, x3, x4, x5, x6, x7, z8, z9] t) := h6.setAt (i := 7) x7
  have h8 : Blk _ P (.cells #[x0, x1, x2, x3, x4, x5, x6, x7, x8, z9] t) := h7.setAt (i := 8) x8
  have h9 : Blk _ P (.cells #[x0, x1, x2, x3, x4, x5, x6, x7, x8, x9] t) := h8.setAt (i := 9) x9
  exact h9
def NumP (x : Int) (W : World) (v : Value) (w' : World) : Prop := ∃ g c, v = .slice (some ⟨g, 0, none⟩) 1 c ∧ g < w'.heap.size ∧ w'.cell? ⟨g, 0, none⟩ = some (.int .i64 x) ∧ Below W.heap.size W w'
def NumsP (l : List Int) (k : Nat) (W : World) (v : Value) (w' : World) : Prop := ∃ g c, v = .slice (some ⟨g, 0, none⟩) k c ∧ OwnN w' W.heap.size v l ∧ Below W.heap.size W w'
theorem slA {c k g : Nat} {A : Option Addr} (h : A = if c = k then some ⟨g, 0, none⟩ else some ⟨g, k, none⟩) : (c = k ∧ A = some ⟨g, 0, none⟩) ∨ (c ≠ k ∧ A = some ⟨g, k, none⟩) := by
  by_cases e : c = k
  · rw [if_pos e] at h; exact .inl ⟨e, h⟩
  · rw [if_neg e] at h; exact .inr ⟨e, h⟩

theorem OwnN.lows {w : World} {B B' : Nat} {v : Value} {l : List Int} (h : OwnN w B v l) (hB : B' ≤ B) : OwnN w B' v l := by
  refine ⟨h.1, ?_⟩
  rcases h.2 with hn | ⟨g, cap, cur, hv, hbg, rest⟩
  · exact .inl hn
  · exact .inr ⟨g, cap, cur, hv, Nat.le_trans hB hbg, rest⟩
set_option maxRecDepth 1000000 in
set_option maxHeartbeats 16000000 in
theorem thrReg13 (g c n : Nat) (A : Option Addr) (x0 x1 : Int) (ows : List Int) (u0 u1 u2 u3 u4 u5 u6 u7 u8 u9 u10 u11 u13 u14 u15 u16 u17 u18 u19 u20 u21 u22 u23 u24 u25 u26 u27 u28 u29 u30 u31 u32 u33 u34 u35 u36 u37 u38 u39 u40 u41 u42 u43 u44 u45 u46 u47 u48 u49 u50 u51 u52 u53 u54 u55 u56 u57 u58 u59 u60 u61 u62 u63 u64 u65 u66 u67 u68 u69 u70 u71 u72 u73 u74 u75 u76 u77 u78 u79 u80 u81 u82 u83 u84 u85 u86 u87 u88 u89 u90 u91 u92 u93 u94 u95 u96 u97 u98 u99 u100 u101 u102 u103 u104 u105 u106 u107 u108 u109 u110 u111 u112 u113 u114 u115 u116 u117 u118 u119 u120 u121 u122 u123 u124 u125 u126 u127 u128 u129 u130 u131 u132 u133 u134 u135 u136 u137 u138 u139 u140 u141 u142 u143 u144 u145 u146 u147 u148 u149 u150 u151 u152 u153 u154 u155 u156 u157 u158 u159 u160 u161 u162 u163 u164 u165 u166 u167 u168 u169 u170 u171 u172 u173 u174 u175 u176 u177 u178 u179 u180 u181 u182 u183 u184 : Value) (V : World) (Q : Exit → Act → World → Prop) (hp : ∀ c a d v w, Q (.panic c) (Act.put a (some d) v) w → Q (.panic c) a w)
    (hn : 4 ≤ n) (hc : n ≤ c) (hA : A = if c = 4 then some ⟨g, 0, none⟩ else some ⟨g, 4, none⟩) (EN : ∀ args w, (callFunc 11 args).run Tryz.prog w = .ok (.enter 11 args) w)
    (P0 : ∀ W, Below V.heap.size V W → Calls Tryz.prog 11 #[.slice (some ⟨g, 0, none⟩) 1 c] W fun e w' => ∃ v, e = .returned v ∧ NumP x0 W v w') (P1 : ∀ W, Below V.heap.size V W → Calls Tryz.prog 11 #[.slice (some ⟨g, 3, none⟩) 1 (c - 3)] W fun e w' => ∃ v, e = .returned v ∧ NumP x1 W v w') (P2 : ∀ W, Below V.heap.size V W → Calls Tryz.prog 11 #[.slice A (n - 4) (c - 4)] W fun e w' => ∃ v, e = .returned v ∧ NumsP ows (n - 4) W v w')
    (hQ : ∀ (P q d : Nat) (z56 z57 z58 z59 z60 z61 z62 z63 z64 z65 z66 z67 z68 z69 : Value) (W : World), Below V.heap.size V W → V.heap.size ≤ P → Blk W P (.cells #[.int .i64 x0, .int .i64 0, .slice none 0 0, .int .i64 0, .slice none 0 0, (.slice (some ⟨q, 0, none⟩) (n - 4) d), .int .i64 x1] 41) → OwnN W V.heap.size (.slice (some ⟨q, 0, none⟩) (n - 4) d) ows → P ≠ q → Q .normal ⟨#[u0, u1, u2, u3, u4, u5, u6, u7, u8, u9, u10, u11, (.slice (some ⟨g, 0, none⟩) n c), u13, .pointer (some ⟨P, 0, none⟩), u15, u16, u17, u18, u19, u20, u21, u22, u23, u24, u25, u26, u27, u28, u29, u30, u31, u32, u33, u34, u35, u36, u37, u38, u39, u40, u41, u42, u43, u44, u45, u46, u47, u48, u49, u50, u51, u52, u53, u54, u55, z56, z57, z58, z59, z60, z61, z62, z63, z64, z65, z66, z67, z68, z69, u70, u71, u72, u73, u74, u75, u76, u77, u78, u79, u80, u81, u82, u83, u84, u85, u86, u87, u88, u89, u90, u91, u92, u93, u94, u95, u96, u97, u98, u99, u100, u101, u102, u103, u104, u105, u106, u107, u108, u109, u110, u111, u112, u113, u114, u115, u116, u117, u118, u119, u120, u121, u122, u123, u124, u125, u126, u127, u128, u129, u130, u131, u132, u133, u134, u135, u136, u137, u138, u139, u140, u141, u142, u143, u144, u145, u146, u147, u148, u149, u150, u151, u152, u153, u154, u155, u156, u157, u158, u159, u160, u161, u162, u163, u164, u165, u166, u167, u168, u169, u170, u171, u172, u173, u174, u175, u176, u177, u178, u179, u180, u181, u182, u183, u184], []⟩ W) :
    Code.wp Tryz.prog (Code.region 13 #[{ dst := some 56, op := Op.move (Operand.tmp 12), type := 33, pos := "l10_texts.go:98", after := #[], guard := none }, { dst := some 57, op := Op.slice 33 (Operand.tmp 56) none (some (Operand.const (Value.int IntKind.i64 1))) none, type := 33, pos := "l10_texts.go:98", after := #[{ on := 0, ground := Ground.data }], guard := none }, { dst := some 58, op := Op.call { callee := Callee.value (Operand.func 11), args := #[Operand.tmp 57], argTypes := #[33] }, type := 35, pos := "l10_texts.go:98", after := #[{ on := 1, ground := Ground.data }], guard := none }, { dst := some 59, op := Op.indexAddr 35 (Operand.tmp 58) (Operand.const (Value.int IntKind.i64 0)), type := 0, pos := "l10_texts.go:98", after := #[{ on := 2, ground := Ground.data }], guard := none }, { dst := some 60, op := Op.load 2 (Operand.tmp 59), type := 2, pos := "l10_texts.go:98", after := #[{ on := 3, ground := Ground.data }], guard := none }, { dst := some 61, op := Op.move (Operand.tmp 12), type := 33, pos := "l10_texts.go:98", after := #[], guard := none }, { dst := some 62, op := Op.slice 33 (Operand.tmp 61) (some (Operand.const (Value.int IntKind.i64 3))) (some (Operand.const (Value.int IntKind.i64 4))) none, type := 33, pos := "l10_texts.go:98", after := #[{ on := 5, ground := Ground.data }], guard := none }, { dst := some 63, op := Op.call { callee := Callee.value (Operand.func 11), args := #[Operand.tmp 62], argTypes := #[33] }, type := 35, pos := "l10_texts.go:98", after := #[{ on := 6, ground := Ground.data }, { on := 2, ground := Ground.chain }], guard := none }, { dst := some 64, op := Op.indexAddr 35 (Operand.tmp 63) (Operand.const (Value.int IntKind.i64 0)), type := 0, pos := "l10_texts.go:98", after := #[{ on := 7, ground := Ground.data }], guard := none }, { dst := some 65, op := Op.load 2 (Operand.tmp 64), type := 2, pos := "l10_texts.go:98", after := #[{ on := 8, ground := Ground.data }], guard := none }, { dst := some 66, op := Op.move (Operand.tmp 12), type := 33, pos := "l10_texts.go:98", after := #[], guard := none }, { dst := some 67, op := Op.slice 33 (Operand.tmp 66) (some (Operand.const (Value.int IntKind.i64 4))) none none, type := 33, pos := "l10_texts.go:98", after := #[{ on := 10, ground := Ground.data }], guard := none }, { dst := some 68, op := Op.call { callee := Callee.value (Operand.func 11), args := #[Operand.tmp 67], argTypes := #[33] }, type := 35, pos := "l10_texts.go:98", after := #[{ on := 11, ground := Ground.data }, { on := 7, ground := Ground.chain }], guard := none }, { dst := some 69, op := Op.build 41 #[(0, Operand.tmp 60), (4, Operand.tmp 65), (3, Operand.tmp 68)], type := 41, pos := "l10_texts.go:98", after := #[{ on := 4, ground := Ground.data }, { on := 9, ground := Ground.data }, { on := 12, ground := Ground.data }], guard := none }, { dst := some 14, op := Op.alloc 41, type := 0, pos := "l10_texts.go:98", after := #[], guard := none }, { dst := none, op := Op.store 41 (Operand.tmp 14) (Operand.tmp 69), type := 0, pos := "l10_texts.go:98", after := #[{ on := 14, ground := Ground.data }, { on := 13, ground := Ground.data }, { on := 12, ground := Ground.chain }, { on := 0, ground := Ground.phase }, { on := 1, ground := Ground.phase }, { on := 2, ground := Ground.phase }, { on := 3, ground := Ground.phase }, { on := 4, ground := Ground.phase }, { on := 5, ground := Ground.phase }, { on := 6, ground := Ground.phase }, { on := 7, ground := Ground.phase }, { on := 8, ground := Ground.phase }, { on := 9, ground := Ground.phase }, { on := 10, ground := Ground.phase }, { on := 11, ground := Ground.phase }, { on := 12, ground := Ground.phase }, { on := 13, ground := Ground.phase }, { on := 14, ground := Ground.phase }], guard := none }] true) Q ⟨#[u0, u1, u2, u3, u4, u5, u6, u7, u8, u9, u10, u11, (.slice (some ⟨g, 0, none⟩) n c), u13, u14, u15, u16, u17, u18, u19, u20, u21, u22, u23, u24, u25, u26, u27, u28, u29, u30, u31, u32, u33, u34, u35, u36, u37, u38, u39, u40, u41, u42, u43, u44, u45, u46, u47, u48, u49, u50, u51, u52, u53, u54, u55, u56, u57, u58, u59, u60, u61, u62, u63, u64, u65, u66, u67, u68, u69, u70, u71, u72, u73, u74, u75, u76, u77, u78, u79, u80, u81, u82, u83, u84, u85, u86, u87, u88, u89, u90, u91, u92, u93, u94, u95, u96, u97, u98, u99, u100, u101, u102, u103, u104, u105, u106, u107, u108, u109, u110, u111, u112, u113, u114, u115, u116, u117, u118, u119, u120, u121, u122, u123, u124, u125, u126, u127, u128, u129, u130, u131, u132, u133, u134, u135, u136, u137, u138, u139, u140, u141, u142, u143, u144, u145, u146, u147, u148, u149, u150, u151, u152, u153, u154, u155, u156, u157, u158, u159, u160, u161, u162, u163, u164, u165, u166, u167, u168, u169, u170, u171, u172, u173, u174, u175, u176, u177, u178, u179, u180, u181, u182, u183, u184], []⟩ V := by
  have V0 : Below V.heap.size V V.drew := (Below.refl _ V).drew
  have hs := slA hA
  clear hA
  have V0s := V0.size
  have fa1 : (1 : Int) ≤ (c : Int) := by omega
  have fa4 : (4 : Int) ≤ (c : Int) := by omega
  have fb3 : ¬ c = 3 := by omega
  have fc : (4 : Int) ≤ (n : Int) := by omega
  have fd : (4 : Int) ≤ (c : Int) := by omega
  refine wp_region_G 15 (fun W => Below V.heap.size V W) (by kernel_rfl) ?_
  generalize V.drew = w0 at *
  refine tq 0 56 ((.slice (some ⟨g, 0, none⟩) n c)) V0 ?_ (hQ := fun c a w h => hp c a _ _ w h)
  simp only [ap, List.set]
  refine tq 1 57 (.slice (some ⟨g, 0, none⟩) 1 c) V0 ?_ (hQ := fun c a w h => hp c a _ _ w h)
  simp only [ap, List.set]
  refine tq 5 61 ((.slice (some ⟨g, 0, none⟩) n c)) V0 ?_ (hQ := fun c a w h => hp c a _ _ w h)
  simp only [ap, List.set]
  refine tq 6 62 (.slice (some ⟨g, 3, none⟩) 1 (c - 3)) V0 ?_ (hQ := fun c a w h => hp c a _ _ w h)
  simp only [ap, List.set]
  refine tq 10 66 ((.slice (some ⟨g, 0, none⟩) n c)) V0 ?_ (hQ := fun c a w h => hp c a _ _ w h)
  simp only [ap, List.set]
  refine tq 11 67 (.slice A (n - 4) (c - 4)) V0 ?_ (hy := fun W h => by rcases hs with ⟨h1, h2⟩ | ⟨h1, h2⟩ <;> subst h2 <;> go_simp) (hQ := fun c a w h => hp c a _ _ w h)
  simp only [ap, List.set]
  refine wpAnyG_two (i := 2) (j := 14) (by kernel_rfl) rfl rfl ?_ ?_
  · skip
    intro K hK
    refine step_call1g (by rfl) 11 _ _ (by rfl) EN _ (by rfl) (some 58) (by rfl) _ (P0 _ V0) ?_
    rintro v w1 ⟨q1, d1, rfl, l1, c1, b1⟩
    have X1 := then_ V0 b1
    have V1 : Below V.heap.size V w1 := X1
    have s1 := V1.size
    have R1 : Below w1.heap.size w1 w1 := Below.refl _ _
    refine hK.out _ _ (fun _ => X1) ?_
    clear hK K
    refine wpAnyG_up (S' := fun W => Below w1.heap.size w1 W) (fun W h => then_ X1 h) _ _ _ _ ?_
    simp only [ap, List.set]
    refine tq 3 59 (.pointer (some ⟨q1, 0, none⟩)) R1 ?_ (hQ := fun c a w h => hp c a _ _ w h)
    simp only [ap, List.set]
    refine tq 4 60 (.int .i64 x0) R1 ?_ (hy := fun W h => by have cc := (h.cell (p := ⟨q1, 0, none⟩) l1).trans c1; go_simp) (hQ := fun c a w h => hp c a _ _ w h)
    simp only [ap, List.set]
    refine wpAnyG_two (i := 7) (j := 14) (by kernel_rfl) rfl rfl ?_ ?_
    · skip
      intro K hK
      refine step_call1g (by rfl) 11 _ _ (by rfl) EN _ (by rfl) (some 63) (by rfl) _ (P1 _ (then_ V1 R1)) ?_
      rintro v w2 ⟨q2, d2, rfl, l2, c2, b2⟩
      have X2 := then_ R1 b2
      have V2 : Below V.heap.size V w2 := then_ V1 X2
      have s2 := V2.size
      have R2 : Below w2.heap.size w2 w2 := Below.refl _ _
      refine hK.out _ _ (fun _ => X2) ?_
      clear hK K
      refine wpAnyG_up (S' := fun W => Below w2.heap.size w2 W) (fun W h => then_ X2 h) _ _ _ _ ?_
      simp only [ap, List.set]
      refine tq 8 64 (.pointer (some ⟨q2, 0, none⟩)) R2 ?_ (hQ := fun c a w h => hp c a _ _ w h)
      simp only [ap, List.set]
      refine tq 9 65 (.int .i64 x1) R2 ?_ (hy := fun W h => by have cc := (h.cell (p := ⟨q2, 0, none⟩) l2).trans c2; go_simp) (hQ := fun c a w h => hp c a _ _ w h)
      simp only [ap, List.set]
      refine wpAnyG_two (i := 12) (j := 14) (by kernel_rfl) rfl rfl ?_ ?_
      · skip
        intro K hK
        refine step_call1g (by rfl) 11 _ _ (by rfl) EN _ (by rfl) (some 68) (by rfl) _ (P2 _ (then_ V2 R2)) ?_
        rintro v w3 ⟨q3, d3, rfl, o3, b3⟩
        have X3 := then_ R2 b3
        have V3 : Below V.heap.size V w3 := then_ V2 X3
        have s3 := V3.size
        have R3 : Below w3.heap.size w3 w3 := Below.refl _ _
        have ol3 := o3.lt
        have ou3 : OwnN w3 V.heap.size (.slice (some ⟨q3, 0, none⟩) (n - 4) d3) ows := OwnN.lows o3 (by have := ((then_ V2 R2)).size; omega)
        refine hK.out _ _ (fun _ => X3) ?_
        clear hK K
        refine wpAnyG_up (S' := fun W => Below w3.heap.size w3 W) (fun W h => then_ X3 h) _ _ _ _ ?_
        simp only [ap, List.set]
        refine tq 13 69 (.agg #[.int .i64 x0, .int .i64 0, .slice none 0 0, .int .i64 0, .slice none 0 0, (.slice (some ⟨q3, 0, none⟩) (n - 4) d3), .int .i64 x1]) R3 ?_ (hQ := fun c a w h => hp c a _ _ w h)
        simp only [ap, List.set]
        refine wpAnyG_one (i := 14) (by kernel_rfl) rfl ?_
        intro K hK
        have A4 := Blk.new w3 (.cells #[.int .i64 0, .int .i64 0, .slice none 0 0, .int .i64 0, .slice none 0 0, .slice none 0 0, .int .i64 0] 41)
        have Y4 := R3.alloc R3.size (.cells #[.int .i64 0, .int .i64 0, .slice none 0 0, .int .i64 0, .slice none 0 0, .slice none 0 0, .int .i64 0] 41)
        have V4a := (then_ V3 Y4)
        have h4 : V.heap.size ≤ w3.heap.size := ((then_ V3 R3)).size
        go_simp
        refine hK.out _ _ (fun _ => Y4) ?_
        clear hK K
        try simp only [ap, List.set]
        have ne4 : w3.heap.size ≠ q3 := by have := ou3.lt.2; omega
        have nb4 : ¬ (Value.slice (some ⟨q3, 0, none⟩) (n - 4) d3).ownBlock = some w3.heap.size := fun e => ne4 (Option.some.inj e).symm
        have oa4 := ou3.alloc (.cells #[.int .i64 0, .int .i64 0, .slice none 0 0, .int .i64 0, .slice none 0 0, .slice none 0 0, .int .i64 0] 41)
        generalize w3.alloc (.cells #[.int .i64 0, .int .i64 0, .slice none 0 0, .int .i64 0, .slice none 0 0, .slice none 0 0, .int .i64 0] 41) = wa4 at *
        refine wpAnyG_one (i := 15) (by kernel_rfl) rfl ?_
        intro K hK
        have B0 := A4
        have wf := B0.warm
        obtain ⟨e0, e1, e2, e3, e4, e5, e6⟩ := B0.seven
        go_simp
        refine hK.out _ _ (fun h => absurd h (by decide)) ?_
        clear hK K
        refine wpAnyG_done (by kernel_rfl) ?_ _
        have BL := B0.st7 (.int .i64 x0) (.int .i64 0) (.slice none 0 0) (.int .i64 0) (.slice none 0 0) ((.slice (some ⟨q3, 0, none⟩) (n - 4) d3)) (.int .i64 x1)
        have BE := Below.sets h4 [(0, .int .i64 x0), (1, .int .i64 0), (2, .slice none 0 0), (3, .int .i64 0), (4, .slice none 0 0), (5, (.slice (some ⟨q3, 0, none⟩) (n - 4) d3)), (6, .int .i64 x1)] _ V4a
        have BO := OwnN.others nb4 [(0, .int .i64 x0), (1, .int .i64 0), (2, .slice none 0 0), (3, .int .i64 0), (4, .slice none 0 0), (5, (.slice (some ⟨q3, 0, none⟩) (n - 4) d3)), (6, .int .i64 x1)] _ oa4
        exact hQ w3.heap.size q3 d3 _ _ _ _ _ _ _ _ _ _ _ _ _ _ _ BE h4 BL BO ne4
      · skip
        intro K hK
        have A5 := Blk.new w2 (.cells #[.int .i64 0, .int .i64 0, .slice none 0 0, .int .i64 0, .slice none 0 0, .slice none 0 0, .int .i64 0] 41)
        have Y5 := R2.alloc R2.size (.cells #[.int .i64 0, .int .i64 0, .slice none 0 0, .int .i64 0, .slice none 0 0, .slice none 0 0, .int .i64 0] 41)
        have V5a := (then_ V2 Y5)
        have h5 : V.heap.size ≤ w2.heap.size := ((then_ V2 R2)).size
        go_simp
        refine hK.out _ _ (fun _ => Y5) ?_
        clear hK K
        try simp only [ap, List.set]
        generalize w2.alloc (.cells #[.int .i64 0, .int .i64 0, .slice none 0 0, .int .i64 0, .slice none 0 0, .slice none 0 0, .int .i64 0] 41) = wa5 at *
        refine wpAnyG_one (i := 12) (by kernel_rfl) rfl ?_
        intro K hK
        refine step_call1g (by rfl) 11 _ _ (by rfl) EN _ (by rfl) (some 68) (by rfl) _ (P2 _ (then_ V2 Y5)) ?_
        rintro v w6 ⟨q6, d6, rfl, o6, b6⟩
        have X6 := then_ Y5 b6
        have V6 : Below V.heap.size V w6 := then_ V2 X6
        have s6 := V6.size
        have R6 : Below w6.heap.size w6 w6 := Below.refl _ _
        have F6 := A5.below b6
        have pl6 := A5.lt
        have ol6 := o6.lt
        have ou6 : OwnN w6 V.heap.size (.slice (some ⟨q6, 0, none⟩) (n - 4) d6) ows := OwnN.lows o6 (by have := ((then_ V2 Y5)).size; omega)
        have ne6 : w2.heap.size ≠ q6 := by omega
        have nb6 : ¬ (Value.slice (some ⟨q6, 0, none⟩) (n - 4) d6).ownBlock = some w2.heap.size := fun e => ne6 (Option.some.inj e).symm
        refine hK.out _ _ (fun _ => X6) ?_
        clear hK K
        refine wpAnyG_up (S' := fun W => Below w6.heap.size w6 W) (fun W h => then_ X6 h) _ _ _ _ ?_
        simp only [ap, List.set]
        refine tq 13 69 (.agg #[.int .i64 x0, .int .i64 0, .slice none 0 0, .int .i64 0, .slice none 0 0, (.slice (some ⟨q6, 0, none⟩) (n - 4) d6), .int .i64 x1]) R6 ?_ (hQ := fun c a w h => hp c a _ _ w h)
        simp only [ap, List.set]
        refine wpAnyG_one (i := 15) (by kernel_rfl) rfl ?_
        intro K hK
        have B0 := F6
        have wf := B0.warm
        obtain ⟨e0, e1, e2, e3, e4, e5, e6⟩ := B0.seven
        go_simp
        refine hK.out _ _ (fun h => absurd h (by decide)) ?_
        clear hK K
        refine wpAnyG_done (by kernel_rfl) ?_ _
        have BL := B0.st7 (.int .i64 x0) (.int .i64 0) (.slice none 0 0) (.int .i64 0) (.slice none 0 0) ((.slice (some ⟨q6, 0, none⟩) (n - 4) d6)) (.int .i64 x1)
        have BE := Below.sets h5 [(0, .int .i64 x0), (1, .int .i64 0), (2, .slice none 0 0), (3, .int .i64 0), (4, .slice none 0 0), (5, (.slice (some ⟨q6, 0, none⟩) (n - 4) d6)), (6, .int .i64 x1)] _ V6
        have BO := OwnN.others nb6 [(0, .int .i64 x0), (1, .int .i64 0), (2, .slice none 0 0), (3, .int .i64 0), (4, .slice none 0 0), (5, (.slice (some ⟨q6, 0, none⟩) (n - 4) d6)), (6, .int .i64 x1)] _ ou6
        exact hQ w2.heap.size q6 d6 _ _ _ _ _ _ _ _ _ _ _ _ _ _ _ BE h5 BL BO ne6
    · skip
      intro K hK
      have A7 := Blk.new w1 (.cells #[.int .i64 0, .int .i64 0, .slice none 0 0, .int .i64 0, .slice none 0 0, .slice none 0 0, .int .i64 0] 41)
      have Y7 := R1.alloc R1.size (.cells #[.int .i64 0, .int .i64 0, .slice none 0 0, .int .i64 0, .slice none 0 0, .slice none 0 0, .int .i64 0] 41)
      have V7a := (then_ V1 Y7)
      have h7 : V.heap.size ≤ w1.heap.size := ((then_ V1 R1)).size
      go_simp
      refine hK.out _ _ (fun _ => Y7) ?_
      clear hK K
      try simp only [ap, List.set]
      generalize w1.alloc (.cells #[.int .i64 0, .int .i64 0, .slice none 0 0, .int .i64 0, .slice none 0 0, .slice none 0 0, .int .i64 0] 41) = wa7 at *
      refine wpAnyG_one (i := 7) (by kernel_rfl) rfl ?_
      intro K hK
      refine step_call1g (by rfl) 11 _ _ (by rfl) EN _ (by rfl) (some 63) (by rfl) _ (P1 _ (then_ V1 Y7)) ?_
      rintro v w8 ⟨q8, d8, rfl, l8, c8, b8⟩
      have X8 := then_ Y7 b8
      have V8 : Below V.heap.size V w8 := then_ V1 X8
      have s8 := V8.size
      have R8 : Below w8.heap.size w8 w8 := Below.refl _ _
      have F8 := A7.below b8
      have pl8 := A7.lt
      refine hK.out _ _ (fun _ => X8) ?_
      clear hK K
      refine wpAnyG_up (S' := fun W => Below w8.heap.size w8 W) (fun W h => then_ X8 h) _ _ _ _ ?_
      simp only [ap, List.set]
      refine tq 8 64 (.pointer (some ⟨q8, 0, none⟩)) R8 ?_ (hQ := fun c a w h => hp c a _ _ w h)
      simp only [ap, List.set]
      refine tq 9 65 (.int .i64 x1) R8 ?_ (hy := fun W h => by have cc := (h.cell (p := ⟨q8, 0, none⟩) l8).trans c8; go_simp) (hQ := fun c a w h => hp c a _ _ w h)
      simp only [ap, List.set]
      refine wpAnyG_one (i := 12) (by kernel_rfl) rfl ?_
      intro K hK
      refine step_call1g (by rfl) 11 _ _ (by rfl) EN _ (by rfl) (some 68) (by rfl) _ (P2 _ (then_ V8 R8)) ?_
      rintro v w9 ⟨q9, d9, rfl, o9, b9⟩
      have X9 := then_ R8 b9
      have V9 : Below V.heap.size V w9 := then_ V8 X9
      have s9 := V9.size
      have R9 : Below w9.heap.size w9 w9 := Below.refl _ _
      have F9 := F8.below b9
      have pl9 := F8.lt
      have ol9 := o9.lt
      have ou9 : OwnN w9 V.heap.size (.slice (some ⟨q9, 0, none⟩) (n - 4) d9) ows := OwnN.lows o9 (by have := ((then_ V8 R8)).size; omega)
      have ne9 : w1.heap.size ≠ q9 := by omega
      have nb9 : ¬ (Value.slice (some ⟨q9, 0, none⟩) (n - 4) d9).ownBlock = some w1.heap.size := fun e => ne9 (Option.some.inj e).symm
      refine hK.out _ _ (fun _ => X9) ?_
      clear hK K
      refine wpAnyG_up (S' := fun W => Below w9.heap.size w9 W) (fun W h => then_ X9 h) _ _ _ _ ?_
      simp only [ap, List.set]
      refine tq 13 69 (.agg #[.int .i64 x0, .int .i64 0, .slice none 0 0, .int .i64 0, .slice none 0 0, (.slice (some ⟨q9, 0, none⟩) (n - 4) d9), .int .i64 x1]) R9 ?_ (hQ := fun c a w h => hp c a _ _ w h)
      simp only [ap, List.set]
      refine wpAnyG_one (i := 15) (by kernel_rfl) rfl ?_
      intro K hK
      have B0 := F9
      have wf := B0.warm
      obtain ⟨e0, e1, e2, e3, e4, e5, e6⟩ := B0.seven
      go_simp
      refine hK.out _ _ (fun h => absurd h (by decide)) ?_
      clear hK K
      refine wpAnyG_done (by kernel_rfl) ?_ _
      have BL := B0.st7 (.int .i64 x0) (.int .i64 0) (.slice none 0 0) (.int .i64 0) (.slice none 0 0) ((.slice (some ⟨q9, 0, none⟩) (n - 4) d9)) (.int .i64 x1)
      have BE := Below.sets h7 [(0, .int .i64 x0), (1, .int .i64 0), (2, .slice none 0 0), (3, .int .i64 0), (4, .slice none 0 0), (5, (.slice (some ⟨q9, 0, none⟩) (n - 4) d9)), (6, .int .i64 x1)] _ V9
      have BO := OwnN.others nb9 [(0, .int .i64 x0), (1, .int .i64 0), (2, .slice none 0 0), (3, .int .i64 0), (4, .slice none 0 0), (5, (.slice (some ⟨q9, 0, none⟩) (n - 4) d9)), (6, .int .i64 x1)] _ ou9
      exact hQ w1.heap.size q9 d9 _ _ _ _ _ _ _ _ _ _ _ _ _ _ _ BE h7 BL BO ne9
  · skip
    intro K hK
    have A10 := Blk.new w0 (.cells #[.int .i64 0, .int .i64 0, .slice none 0 0, .int .i64 0, .slice none 0 0, .slice none 0 0, .int .i64 0] 41)
    have Y10 := V0.alloc V0.size (.cells #[.int .i64 0, .int .i64 0, .slice none 0 0, .int .i64 0, .slice none 0 0, .slice none 0 0, .int .i64 0] 41)
    have V10a := Y10
    have h10 : V.heap.size ≤ w0.heap.size := (V0).size
    go_simp
    refine hK.out _ _ (fun _ => Y10) ?_
    clear hK K
    try simp only [ap, List.set]
    generalize w0.alloc (.cells #[.int .i64 0, .int .i64 0, .slice none 0 0, .int .i64 0, .slice none 0 0, .slice none 0 0, .int .i64 0] 41) = wa10 at *
    refine wpAnyG_one (i := 2) (by kernel_rfl) rfl ?_
    intro K hK
    refine step_call1g (by rfl) 11 _ _ (by rfl) EN _ (by rfl) (some 58) (by rfl) _ (P0 _ Y10) ?_
    rintro v w11 ⟨q11, d11, rfl, l11, c11, b11⟩
    have X11 := then_ Y10 b11
    have V11 : Below V.heap.size V w11 := X11
    have s11 := V11.size
    have R11 : Below w11.heap.size w11 w11 := Below.refl _ _
    have F11 := A10.below b11
    have pl11 := A10.lt
    refine hK.out _ _ (fun _ => X11) ?_
    clear hK K
    refine wpAnyG_up (S' := fun W => Below w11.heap.size w11 W) (fun W h => then_ X11 h) _ _ _ _ ?_
    simp only [ap, List.set]
    refine tq 3 59 (.pointer (some ⟨q11, 0, none⟩)) R11 ?_ (hQ := fun c a w h => hp c a _ _ w h)
    simp only [ap, List.set]
    refine tq 4 60 (.int .i64 x0) R11 ?_ (hy := fun W h => by have cc := (h.cell (p := ⟨q11, 0, none⟩) l11).trans c11; go_simp) (hQ := fun c a w h => hp c a _ _ w h)
    simp only [ap, List.set]
    refine wpAnyG_one (i := 7) (by kernel_rfl) rfl ?_
    intro K hK
    refine step_call1g (by rfl) 11 _ _ (by rfl) EN _ (by rfl) (some 63) (by rfl) _ (P1 _ (then_ V11 R11)) ?_
    rintro v w12 ⟨q12, d12, rfl, l12, c12, b12⟩
    have X12 := then_ R11 b12
    have V12 : Below V.heap.size V w12 := then_ V11 X12
    have s12 := V12.size
    have R12 : Below w12.heap.size w12 w12 := Below.refl _ _
    have F12 := F11.below b12
    have pl12 := F11.lt
    refine hK.out _ _ (fun _ => X12) ?_
    clear hK K
    refine wpAnyG_up (S' := fun W => Below w12.heap.size w12 W) (fun W h => then_ X12 h) _ _ _ _ ?_
    simp only [ap, List.set]
    refine tq 8 64 (.pointer (some ⟨q12, 0, none⟩)) R12 ?_ (hQ := fun c a w h => hp c a _ _ w h)
    simp only [ap, List.set]
    refine tq 9 65 (.int .i64 x1) R12 ?_ (hy := fun W h => by have cc := (h.cell (p := ⟨q12, 0, none⟩) l12).trans c12; go_simp) (hQ := fun c a w h => hp c a _ _ w h)
    simp only [ap, List.set]
    refine wpAnyG_one (i := 12) (by kernel_rfl) rfl ?_
    intro K hK
    refine step_call1g (by rfl) 11 _ _ (by rfl) EN _ (by rfl) (some 68) (by rfl) _ (P2 _ (then_ V12 R12)) ?_
    rintro v w13 ⟨q13, d13, rfl, o13, b13⟩
    have X13 := then_ R12 b13
    have V13 : Below V.heap.size V w13 := then_ V12 X13
    have s13 := V13.size
    have R13 : Below w13.heap.size w13 w13 := Below.refl _ _
    have F13 := F12.below b13
    have pl13 := F12.lt
    have ol13 := o13.lt
    have ou13 : OwnN w13 V.heap.size (.slice (some ⟨q13, 0, none⟩) (n - 4) d13) ows := OwnN.lows o13 (by have := ((then_ V12 R12)).size; omega)
    have ne13 : w0.heap.size ≠ q13 := by omega
    have nb13 : ¬ (Value.slice (some ⟨q13, 0, none⟩) (n - 4) d13).ownBlock = some w0.heap.size := fun e => ne13 (Option.some.inj e).symm
    refine hK.out _ _ (fun _ => X13) ?_
    clear hK K
    refine wpAnyG_up (S' := fun W => Below w13.heap.size w13 W) (fun W h => then_ X13 h) _ _ _ _ ?_
    simp only [ap, List.set]
    refine tq 13 69 (.agg #[.int .i64 x0, .int .i64 0, .slice none 0 0, .int .i64 0, .slice none 0 0, (.slice (some ⟨q13, 0, none⟩) (n - 4) d13), .int .i64 x1]) R13 ?_ (hQ := fun c a w h => hp c a _ _ w h)
    simp only [ap, List.set]
    refine wpAnyG_one (i := 15) (by kernel_rfl) rfl ?_
    intro K hK
    have B0 := F13
    have wf := B0.warm
    obtain ⟨e0, e1, e2, e3, e4, e5, e6⟩ := B0.seven
    go_simp
    refine hK.out _ _ (fun h => absurd h (by decide)) ?_
    clear hK K
    refine wpAnyG_done (by kernel_rfl) ?_ _
    have BL := B0.st7 (.int .i64 x0) (.int .i64 0) (.slice none 0 0) (.int .i64 0) (.slice none 0 0) ((.slice (some ⟨q13, 0, none⟩) (n - 4) d13)) (.int .i64 x1)
    have BE := Below.sets h10 [(0, .int .i64 x0), (1, .int .i64 0), (2, .slice none 0 0), (3, .int .i64 0), (4, .slice none 0 0), (5, (.slice (some ⟨q13, 0, none⟩) (n - 4) d13)), (6, .int .i64 x1)] _ V13
    have BO := OwnN.others nb13 [(0, .int .i64 x0), (1, .int .i64 0), (2, .slice none 0 0), (3, .int .i64 0), (4, .slice none 0 0), (5, (.slice (some ⟨q13, 0, none⟩) (n - 4) d13)), (6, .int .i64 x1)] _ ou13
    exact hQ w0.heap.size q13 d13 _ _ _ _ _ _ _ _ _ _ _ _ _ _ _ BE h10 BL BO ne13
set_option maxRecDepth 1000000 in
set_option maxHeartbeats 16000000 in
theorem objReg18 (g c n : Nat) (A : Option Addr) (x0 x1 x2 : Int) (ows : List Int) (u0 u1 u2 u3 u4 u5 u6 u7 u8 u9 u10 u11 u13 u14 u15 u16 u17 u18 u19 u20 u21 u22 u23 u24 u25 u26 u27 u28 u29 u30 u31 u32 u33 u34 u35 u36 u37 u38 u39 u40 u41 u42 u43 u44 u45 u46 u47 u48 u49 u50 u51 u52 u53 u54 u55 u56 u57 u58 u59 u60 u61 u62 u63 u64 u65 u66 u67 u68 u69 u70 u71 u72 u73 u74 u75 u76 u77 u78 u79 u80 u81 u82 u83 u84 u85 u86 u87 u88 u89 u90 u91 u92 u93 u94 u95 u96 u97 u98 u99 u100 u101 u102 u103 u104 u105 u106 u107 u108 u109 u110 u111 u112 u113 u114 u115 u116 u117 u118 u119 u120 u121 u122 u123 u124 u125 u126 u127 u128 u129 u130 u131 u132 u133 u134 u135 u136 u137 u138 u139 u140 u141 u142 u143 u144 u145 u146 u147 u148 u149 u150 u151 u152 u153 u154 u155 u156 u157 u158 u159 u160 u161 u162 u163 u164 u165 u166 u167 u168 u169 u170 u171 u172 u173 u174 u175 u176 u177 u178 u179 u180 u181 u182 u183 u184 : Value) (V : World) (Q : Exit → Act → World → Prop) (hp : ∀ c a d v w, Q (.panic c) (Act.put a (some d) v) w → Q (.panic c) a w)
    (hn : 5 ≤ n) (hc : n ≤ c) (hA : A = if c = 5 then some ⟨g, 0, none⟩ else some ⟨g, 5, none⟩) (EN : ∀ args w, (callFunc 11 args).run Tryz.prog w = .ok (.enter 11 args) w)
    (P0 : ∀ W, Below V.heap.size V W → Calls Tryz.prog 11 #[.slice (some ⟨g, 0, none⟩) 1 c] W fun e w' => ∃ v, e = .returned v ∧ NumP x0 W v w') (P1 : ∀ W, Below V.heap.size V W → Calls Tryz.prog 11 #[.slice (some ⟨g, 1, none⟩) 1 (c - 1)] W fun e w' => ∃ v, e = .returned v ∧ NumP x1 W v w') (P2 : ∀ W, Below V.heap.size V W → Calls Tryz.prog 11 #[.slice (some ⟨g, 2, none⟩) 1 (c - 2)] W fun e w' => ∃ v, e = .returned v ∧ NumP x2 W v w') (P3 : ∀ W, Below V.heap.size V W → Calls Tryz.prog 11 #[.slice A (n - 5) (c - 5)] W fun e w' => ∃ v, e = .returned v ∧ NumsP ows (n - 5) W v w')
    (hQ : ∀ (P q d : Nat) (z100 z101 z102 z103 z104 z105 z106 z107 z108 z109 z110 z111 z112 z113 z114 z115 z116 z117 z118 : Value) (W : World), Below V.heap.size V W → V.heap.size ≤ P → Blk W P (.cells #[.int .i64 x0, .int .i64 x1, .int .i64 x2, .int .i64 0, .slice none 0 0, .string (ByteArray.mk #[]), .slice none 0 0, (.slice (some ⟨q, 0, none⟩) (n - 5) d), .int .i64 0, .slice none 0 0] 45) → OwnN W V.heap.size (.slice (some ⟨q, 0, none⟩) (n - 5) d) ows → P ≠ q → Q .normal ⟨#[u0, u1, u2, u3, u4, u5, u6, u7, u8, u9, u10, u11, (.slice (some ⟨g, 0, none⟩) n c), u13, u14, .pointer (some ⟨P, 0, none⟩), u16, u17, u18, u19, u20, u21, u22, u23, u24, u25, u26, u27, u28, u29, u30, u31, u32, u33, u34, u35, u36, u37, u38, u39, u40, u41, u42, u43, u44, u45, u46, u47, u48, u49, u50, u51, u52, u53, u54, u55, u56, u57, u58, u59, u60, u61, u62, u63, u64, u65, u66, u67, u68, u69, u70, u71, u72, u73, u74, u75, u76, u77, u78, u79, u80, u81, u82, u83, u84, u85, u86, u87, u88, u89, u90, u91, u92, u93, u94, u95, u96, u97, u98, u99, z100, z101, z102, z103, z104, z105, z106, z107, z108, z109, z110, z111, z112, z113, z114, z115, z116, z117, z118, u119, u120, u121, u122, u123, u124, u125, u126, u127, u128, u129, u130, u131, u132, u133, u134, u135, u136, u137, u138, u139, u140, u141, u142, u143, u144, u145, u146, u147, u148, u149, u150, u151, u152, u153, u154, u155, u156, u157, u158, u159, u160, u161, u162, u163, u164, u165, u166, u167, u168, u169, u170, u171, u172, u173, u174, u175, u176, u177, u178, u179, u180, u181, u182, u183, u184], []⟩ W) :
    Code.wp Tryz.prog (Code.region 18 #[{ dst := some 100, op := Op.move (Operand.tmp 12), type := 33, pos := "l10_texts.go:103", after := #[], guard := none }, { dst := some 101, op := Op.slice 33 (Operand.tmp 100) none (some (Operand.const (Value.int IntKind.i64 1))) none, type := 33, pos := "l10_texts.go:103", after := #[{ on := 0, ground := Ground.data }], guard := none }, { dst := some 102, op := Op.call { callee := Callee.value (Operand.func 11), args := #[Operand.tmp 101], argTypes := #[33] }, type := 35, pos := "l10_texts.go:103", after := #[{ on := 1, ground := Ground.data }], guard := none }, { dst := some 103, op := Op.indexAddr 35 (Operand.tmp 102) (Operand.const (Value.int IntKind.i64 0)), type := 0, pos := "l10_texts.go:103", after := #[{ on := 2, ground := Ground.data }], guard := none }, { dst := some 104, op := Op.load 2 (Operand.tmp 103), type := 2, pos := "l10_texts.go:103", after := #[{ on := 3, ground := Ground.data }], guard := none }, { dst := some 105, op := Op.move (Operand.tmp 12), type := 33, pos := "l10_texts.go:103", after := #[], guard := none }, { dst := some 106, op := Op.slice 33 (Operand.tmp 105) (some (Operand.const (Value.int IntKind.i64 1))) (some (Operand.const (Value.int IntKind.i64 2))) none, type := 33, pos := "l10_texts.go:103", after := #[{ on := 5, ground := Ground.data }], guard := none }, { dst := some 107, op := Op.call { callee := Callee.value (Operand.func 11), args := #[Operand.tmp 106], argTypes := #[33] }, type := 35, pos := "l10_texts.go:103", after := #[{ on := 6, ground := Ground.data }, { on := 2, ground := Ground.chain }], guard := none }, { dst := some 108, op := Op.indexAddr 35 (Operand.tmp 107) (Operand.const (Value.int IntKind.i64 0)), type := 0, pos := "l10_texts.go:103", after := #[{ on := 7, ground := Ground.data }], guard := none }, { dst := some 109, op := Op.load 2 (Operand.tmp 108), type := 2, pos := "l10_texts.go:103", after := #[{ on := 8, ground := Ground.data }], guard := none }, { dst := some 110, op := Op.move (Operand.tmp 12), type := 33, pos := "l10_texts.go:103", after := #[], guard := none }, { dst := some 111, op := Op.slice 33 (Operand.tmp 110) (some (Operand.const (Value.int IntKind.i64 2))) (some (Operand.const (Value.int IntKind.i64 3))) none, type := 33, pos := "l10_texts.go:103", after := #[{ on := 10, ground := Ground.data }], guard := none }, { dst := some 112, op := Op.call { callee := Callee.value (Operand.func 11), args := #[Operand.tmp 111], argTypes := #[33] }, type := 35, pos := "l10_texts.go:103", after := #[{ on := 11, ground := Ground.data }, { on := 7, ground := Ground.chain }], guard := none }, { dst := some 113, op := Op.indexAddr 35 (Operand.tmp 112) (Operand.const (Value.int IntKind.i64 0)), type := 0, pos := "l10_texts.go:103", after := #[{ on := 12, ground := Ground.data }], guard := none }, { dst := some 114, op := Op.load 2 (Operand.tmp 113), type := 2, pos := "l10_texts.go:103", after := #[{ on := 13, ground := Ground.data }], guard := none }, { dst := some 115, op := Op.move (Operand.tmp 12), type := 33, pos := "l10_texts.go:103", after := #[], guard := none }, { dst := some 116, op := Op.slice 33 (Operand.tmp 115) (some (Operand.const (Value.int IntKind.i64 5))) none none, type := 33, pos := "l10_texts.go:103", after := #[{ on := 15, ground := Ground.data }], guard := none }, { dst := some 117, op := Op.call { callee := Callee.value (Operand.func 11), args := #[Operand.tmp 116], argTypes := #[33] }, type := 35, pos := "l10_texts.go:103", after := #[{ on := 16, ground := Ground.data }, { on := 12, ground := Ground.chain }], guard := none }, { dst := some 118, op := Op.build 45 #[(0, Operand.tmp 104), (1, Operand.tmp 109), (2, Operand.tmp 114), (6, Operand.tmp 117)], type := 45, pos := "l10_texts.go:103", after := #[{ on := 4, ground := Ground.data }, { on := 9, ground := Ground.data }, { on := 14, ground := Ground.data }, { on := 17, ground := Ground.data }], guard := none }, { dst := some 15, op := Op.alloc 45, type := 0, pos := "l10_texts.go:103", after := #[], guard := none }, { dst := none, op := Op.store 45 (Operand.tmp 15) (Operand.tmp 118), type := 0, pos := "l10_texts.go:103", after := #[{ on := 19, ground := Ground.data }, { on := 18, ground := Ground.data }, { on := 17, ground := Ground.chain }, { on := 0, ground := Ground.phase }, { on := 1, ground := Ground.phase }, { on := 2, ground := Ground.phase }, { on := 3, ground := Ground.phase }, { on := 4, ground := Ground.phase }, { on := 5, ground := Ground.phase }, { on := 6, ground := Ground.phase }, { on := 7, ground := Ground.phase }, { on := 8, ground := Ground.phase }, { on := 9, ground := Ground.phase }, { on := 10, ground := Ground.phase }, { on := 11, ground := Ground.phase }, { on := 12, ground := Ground.phase }, { on := 13, ground := Ground.phase }, { on := 14, ground := Ground.phase }, { on := 15, ground := Ground.phase }, { on := 16, ground := Ground.phase }, { on := 17, ground := Ground.phase }, { on := 18, ground := Ground.phase }, { on := 19, ground := Ground.phase }], guard := none }] true) Q ⟨#[u0, u1, u2, u3, u4, u5, u6, u7, u8, u9, u10, u11, (.slice (some ⟨g, 0, none⟩) n c), u13, u14, u15, u16, u17, u18, u19, u20, u21, u22, u23, u24, u25, u26, u27, u28, u29, u30, u31, u32, u33, u34, u35, u36, u37, u38, u39, u40, u41, u42, u43, u44, u45, u46, u47, u48, u49, u50, u51, u52, u53, u54, u55, u56, u57, u58, u59, u60, u61, u62, u63, u64, u65, u66, u67, u68, u69, u70, u71, u72, u73, u74, u75, u76, u77, u78, u79, u80, u81, u82, u83, u84, u85, u86, u87, u88, u89, u90, u91, u92, u93, u94, u95, u96, u97, u98, u99, u100, u101, u102, u103, u104, u105, u106, u107, u108, u109, u110, u111, u112, u113, u114, u115, u116, u117, u118, u119, u120, u121, u122, u123, u124, u125, u126, u127, u128, u129, u130, u131, u132, u133, u134, u135, u136, u137, u138, u139, u140, u141, u142, u143, u144, u145, u146, u147, u148, u149, u150, u151, u152, u153, u154, u155, u156, u157, u158, u159, u160, u161, u162, u163, u164, u165, u166, u167, u168, u169, u170, u171, u172, u173, u174, u175, u176, u177, u178, u179, u180, u181, u182, u183, u184], []⟩ V := by
  have V0 : Below V.heap.size V V.drew := (Below.refl _ V).drew
  have hs := slA hA
  clear hA
  have V0s := V0.size
  have fa1 : (1 : Int) ≤ (c : Int) := by omega
  have fa2 : (2 : Int) ≤ (c : Int) := by omega
  have fa3 : (3 : Int) ≤ (c : Int) := by omega
  have fb1 : ¬ c = 1 := by omega
  have fb2 : ¬ c = 2 := by omega
  have fc : (5 : Int) ≤ (n : Int) := by omega
  have fd : (5 : Int) ≤ (c : Int) := by omega
  refine wp_region_G 20 (fun W => Below V.heap.size V W) (by kernel_rfl) ?_
  generalize V.drew = w0 at *
  refine tq 0 100 ((.slice (some ⟨g, 0, none⟩) n c)) V0 ?_ (hQ := fun c a w h => hp c a _ _ w h)
  simp only [ap, List.set]
  refine tq 1 101 (.slice (some ⟨g, 0, none⟩) 1 c) V0 ?_ (hQ := fun c a w h => hp c a _ _ w h)
  simp only [ap, List.set]
  refine tq 5 105 ((.slice (some ⟨g, 0, none⟩) n c)) V0 ?_ (hQ := fun c a w h => hp c a _ _ w h)
  simp only [ap, List.set]
  refine tq 6 106 (.slice (some ⟨g, 1, none⟩) 1 (c - 1)) V0 ?_ (hQ := fun c a w h => hp c a _ _ w h)
  simp only [ap, List.set]
  refine tq 10 110 ((.slice (some ⟨g, 0, none⟩) n c)) V0 ?_ (hQ := fun c a w h => hp c a _ _ w h)
  simp only [ap, List.set]
  refine tq 11 111 (.slice (some ⟨g, 2, none⟩) 1 (c - 2)) V0 ?_ (hQ := fun c a w h => hp c a _ _ w h)
  simp only [ap, List.set]
  refine tq 15 115 ((.slice (some ⟨g, 0, none⟩) n c)) V0 ?_ (hQ := fun c a w h => hp c a _ _ w h)
  simp only [ap, List.set]
  refine tq 16 116 (.slice A (n - 5) (c - 5)) V0 ?_ (hy := fun W h => by rcases hs with ⟨h1, h2⟩ | ⟨h1, h2⟩ <;> subst h2 <;> go_simp) (hQ := fun c a w h => hp c a _ _ w h)
  simp only [ap, List.set]
  refine wpAnyG_two (i := 2) (j := 19) (by kernel_rfl) rfl rfl ?_ ?_
  · skip
    intro K hK
    refine step_call1g (by rfl) 11 _ _ (by rfl) EN _ (by rfl) (some 102) (by rfl) _ (P0 _ V0) ?_
    rintro v w1 ⟨q1, d1, rfl, l1, c1, b1⟩
    have X1 := then_ V0 b1
    have V1 : Below V.heap.size V w1 := X1
    have s1 := V1.size
    have R1 : Below w1.heap.size w1 w1 := Below.refl _ _
    refine hK.out _ _ (fun _ => X1) ?_
    clear hK K
    refine wpAnyG_up (S' := fun W => Below w1.heap.size w1 W) (fun W h => then_ X1 h) _ _ _ _ ?_
    simp only [ap, List.set]
    refine tq 3 103 (.pointer (some ⟨q1, 0, none⟩)) R1 ?_ (hQ := fun c a w h => hp c a _ _ w h)
    simp only [ap, List.set]
    refine tq 4 104 (.int .i64 x0) R1 ?_ (hy := fun W h => by have cc := (h.cell (p := ⟨q1, 0, none⟩) l1).trans c1; go_simp) (hQ := fun c a w h => hp c a _ _ w h)
    simp only [ap, List.set]
    refine wpAnyG_two (i := 7) (j := 19) (by kernel_rfl) rfl rfl ?_ ?_
    · skip
      intro K hK
      refine step_call1g (by rfl) 11 _ _ (by rfl) EN _ (by rfl) (some 107) (by rfl) _ (P1 _ (then_ V1 R1)) ?_
      rintro v w2 ⟨q2, d2, rfl, l2, c2, b2⟩
      have X2 := then_ R1 b2
      have V2 : Below V.heap.size V w2 := then_ V1 X2
      have s2 := V2.size
      have R2 : Below w2.heap.size w2 w2 := Below.refl _ _
      refine hK.out _ _ (fun _ => X2) ?_
      clear hK K
      refine wpAnyG_up (S' := fun W => Below w2.heap.size w2 W) (fun W h => then_ X2 h) _ _ _ _ ?_
      simp only [ap, List.set]
      refine tq 8 108 (.pointer (some ⟨q2, 0, none⟩)) R2 ?_ (hQ := fun c a w h => hp c a _ _ w h)
      simp only [ap, List.set]
      refine tq 9 109 (.int .i64 x1) R2 ?_ (hy := fun W h => by have cc := (h.cell (p := ⟨q2, 0, none⟩) l2).trans c2; go_simp) (hQ := fun c a w h => hp c a _ _ w h)
      simp only [ap, List.set]
      refine wpAnyG_two (i := 12) (j := 19) (by kernel_rfl) rfl rfl ?_ ?_
      · skip
        intro K hK
        refine step_call1g (by rfl) 11 _ _ (by rfl) EN _ (by rfl) (some 112) (by rfl) _ (P2 _ (then_ V2 R2)) ?_
        rintro v w3 ⟨q3, d3, rfl, l3, c3, b3⟩
        have X3 := then_ R2 b3
        have V3 : Below V.heap.size V w3 := then_ V2 X3
        have s3 := V3.size
        have R3 : Below w3.heap.size w3 w3 := Below.refl _ _
        refine hK.out _ _ (fun _ => X3) ?_
        clear hK K
        refine wpAnyG_up (S' := fun W => Below w3.heap.size w3 W) (fun W h => then_ X3 h) _ _ _ _ ?_
        simp only [ap, List.set]
        refine tq 13 113 (.pointer (some ⟨q3, 0, none⟩)) R3 ?_ (hQ := fun c a w h => hp c a _ _ w h)
        simp only [ap, List.set]
        refine tq 14 114 (.int .i64 x2) R3 ?_ (hy := fun W h => by have cc := (h.cell (p := ⟨q3, 0, none⟩) l3).trans c3; go_simp) (hQ := fun c a w h => hp c a _ _ w h)
        simp only [ap, List.set]
        refine wpAnyG_two (i := 17) (j := 19) (by kernel_rfl) rfl rfl ?_ ?_
        · skip
          intro K hK
          refine step_call1g (by rfl) 11 _ _ (by rfl) EN _ (by rfl) (some 117) (by rfl) _ (P3 _ (then_ V3 R3)) ?_
          rintro v w4 ⟨q4, d4, rfl, o4, b4⟩
          have X4 := then_ R3 b4
          have V4 : Below V.heap.size V w4 := then_ V3 X4
          have s4 := V4.size
          have R4 : Below w4.heap.size w4 w4 := Below.refl _ _
          have ol4 := o4.lt
          have ou4 : OwnN w4 V.heap.size (.slice (some ⟨q4, 0, none⟩) (n - 5) d4) ows := OwnN.lows o4 (by have := ((then_ V3 R3)).size; omega)
          refine hK.out _ _ (fun _ => X4) ?_
          clear hK K
          refine wpAnyG_up (S' := fun W => Below w4.heap.size w4 W) (fun W h => then_ X4 h) _ _ _ _ ?_
          simp only [ap, List.set]
          refine tq 18 118 (.agg #[.int .i64 x0, .int .i64 x1, .int .i64 x2, .int .i64 0, .slice none 0 0, .string (ByteArray.mk #[]), .slice none 0 0, (.slice (some ⟨q4, 0, none⟩) (n - 5) d4), .int .i64 0, .slice none 0 0]) R4 ?_ (hQ := fun c a w h => hp c a _ _ w h)
          simp only [ap, List.set]
          refine wpAnyG_one (i := 19) (by kernel_rfl) rfl ?_
          intro K hK
          have A5 := Blk.new w4 (.cells #[.int .i64 0, .int .i64 0, .int .i64 0, .int .i64 0, .slice none 0 0, .string (ByteArray.mk #[]), .slice none 0 0, .slice none 0 0, .int .i64 0, .slice none 0 0] 45)
          have Y5 := R4.alloc R4.size (.cells #[.int .i64 0, .int .i64 0, .int .i64 0, .int .i64 0, .slice none 0 0, .string (ByteArray.mk #[]), .slice none 0 0, .slice none 0 0, .int .i64 0, .slice none 0 0] 45)
          have V5a := (then_ V4 Y5)
          have h5 : V.heap.size ≤ w4.heap.size := ((then_ V4 R4)).size
          go_simp
          refine hK.out _ _ (fun _ => Y5) ?_
          clear hK K
          try simp only [ap, List.set]
          have ne5 : w4.heap.size ≠ q4 := by have := ou4.lt.2; omega
          have nb5 : ¬ (Value.slice (some ⟨q4, 0, none⟩) (n - 5) d4).ownBlock = some w4.heap.size := fun e => ne5 (Option.some.inj e).symm
          have oa5 := ou4.alloc (.cells #[.int .i64 0, .int .i64 0, .int .i64 0, .int .i64 0, .slice none 0 0, .string (ByteArray.mk #[]), .slice none 0 0, .slice none 0 0, .int .i64 0, .slice none 0 0] 45)
          generalize w4.alloc (.cells #[.int .i64 0, .int .i64 0, .int .i64 0, .int .i64 0, .slice none 0 0, .string (ByteArray.mk #[]), .slice none 0 0, .slice none 0 0, .int .i64 0, .slice none 0 0] 45) = wa5 at *
          refine wpAnyG_one (i := 20) (by kernel_rfl) rfl ?_
          intro K hK
          have B0 := A5
          have wf := B0.warm
          obtain ⟨e0, e1, e2, e3, e4, e5, e6, e7, e8, e9⟩ := B0.ten
          go_simp
          refine hK.out _ _ (fun h => absurd h (by decide)) ?_
          clear hK K
          refine wpAnyG_done (by kernel_rfl) ?_ _
          have BL := B0.st10 (.int .i64 x0) (.int .i64 x1) (.int .i64 x2) (.int .i64 0) (.slice none 0 0) (.string (ByteArray.mk #[])) (.slice none 0 0) ((.slice (some ⟨q4, 0, none⟩) (n - 5) d4)) (.int .i64 0) (.slice none 0 0)
          have BE := Below.sets h5 [(0, .int .i64 x0), (1, .int .i64 x1), (2, .int .i64 x2), (3, .int .i64 0), (4, .slice none 0 0), (5, .string (ByteArray.mk #[])), (6, .slice none 0 0), (7, (.slice (some ⟨q4, 0, none⟩) (n - 5) d4)), (8, .int .i64 0), (9, .slice none 0 0)] _ V5a
          have BO := OwnN.others nb5 [(0, .int .i64 x0), (1, .int .i64 x1), (2, .int .i64 x2), (3, .int .i64 0), (4, .slice none 0 0), (5, .string (ByteArray.mk #[])), (6, .slice none 0 0), (7, (.slice (some ⟨q4, 0, none⟩) (n - 5) d4)), (8, .int .i64 0), (9, .slice none 0 0)] _ oa5
          exact hQ w4.heap.size q4 d4 _ _ _ _ _ _ _ _ _ _ _ _ _ _ _ _ _ _ _ _ BE h5 BL BO ne5
        · skip
          intro K hK
          have A6 := Blk.new w3 (.cells #[.int .i64 0, .int .i64 0, .int .i64 0, .int .i64 0, .slice none 0 0, .string (ByteArray.mk #[]), .slice none 0 0, .slice none 0 0, .int .i64 0, .slice none 0 0] 45)
          have Y6 := R3.alloc R3.size (.cells #[.int .i64 0, .int .i64 0, .int .i64 0, .int .i64 0, .slice none 0 0, .string (ByteArray.mk #[]), .slice none 0 0, .slice none 0 0, .int .i64 0, .slice none 0 0] 45)
          have V6a := (then_ V3 Y6)
          have h6 : V.heap.size ≤ w3.heap.size := ((then_ V3 R3)).size
          go_simp
          refine hK.out _ _ (fun _ => Y6) ?_
          clear hK K
          try simp only [ap, List.set]
          generalize w3.alloc (.cells #[.int .i64 0, .int .i64 0, .int .i64 0, .int .i64 0, .slice none 0 0, .string (ByteArray.mk #[]), .slice none 0 0, .slice none 0 0, .int .i64 0, .slice none 0 0] 45) = wa6 at *
          refine wpAnyG_one (i := 17) (by kernel_rfl) rfl ?_
          intro K hK
          refine step_call1g (by rfl) 11 _ _ (by rfl) EN _ (by rfl) (some 117) (by rfl) _ (P3 _ (then_ V3 Y6)) ?_
          rintro v w7 ⟨q7, d7, rfl, o7, b7⟩
          have X7 := then_ Y6 b7
          have V7 : Below V.heap.size V w7 := then_ V3 X7
          have s7 := V7.size
          have R7 : Below w7.heap.size w7 w7 := Below.refl _ _
          have F7 := A6.below b7
          have pl7 := A6.lt
          have ol7 := o7.lt
          have ou7 : OwnN w7 V.heap.size (.slice (some ⟨q7, 0, none⟩) (n - 5) d7) ows := OwnN.lows o7 (by have := ((then_ V3 Y6)).size; omega)
          have ne7 : w3.heap.size ≠ q7 := by omega
          have nb7 : ¬ (Value.slice (some ⟨q7, 0, none⟩) (n - 5) d7).ownBlock = some w3.heap.size := fun e => ne7 (Option.some.inj e).symm
          refine hK.out _ _ (fun _ => X7) ?_
          clear hK K
          refine wpAnyG_up (S' := fun W => Below w7.heap.size w7 W) (fun W h => then_ X7 h) _ _ _ _ ?_
          simp only [ap, List.set]
          refine tq 18 118 (.agg #[.int .i64 x0, .int .i64 x1, .int .i64 x2, .int .i64 0, .slice none 0 0, .string (ByteArray.mk #[]), .slice none 0 0, (.slice (some ⟨q7, 0, none⟩) (n - 5) d7), .int .i64 0, .slice none 0 0]) R7 ?_ (hQ := fun c a w h => hp c a _ _ w h)
          simp only [ap, List.set]
          refine wpAnyG_one (i := 20) (by kernel_rfl) rfl ?_
          intro K hK
          have B0 := F7
          have wf := B0.warm
          obtain ⟨e0, e1, e2, e3, e4, e5, e6, e7, e8, e9⟩ := B0.ten
          go_simp
          refine hK.out _ _ (fun h => absurd h (by decide)) ?_
          clear hK K
          refine wpAnyG_done (by kernel_rfl) ?_ _
          have BL := B0.st10 (.int .i64 x0) (.int .i64 x1) (.int .i64 x2) (.int .i64 0) (.slice none 0 0) (.string (ByteArray.mk #[])) (.slice none 0 0) ((.slice (some ⟨q7, 0, none⟩) (n - 5) d7)) (.int .i64 0) (.slice none 0 0)
          have BE := Below.sets h6 [(0, .int .i64 x0), (1, .int .i64 x1), (2, .int .i64 x2), (3, .int .i64 0), (4, .slice none 0 0), (5, .string (ByteArray.mk #[])), (6, .slice none 0 0), (7, (.slice (some ⟨q7, 0, none⟩) (n - 5) d7)), (8, .int .i64 0), (9, .slice none 0 0)] _ V7
          have BO := OwnN.others nb7 [(0, .int .i64 x0), (1, .int .i64 x1), (2, .int .i64 x2), (3, .int .i64 0), (4, .slice none 0 0), (5, .string (ByteArray.mk #[])), (6, .slice none 0 0), (7, (.slice (some ⟨q7, 0, none⟩) (n - 5) d7)), (8, .int .i64 0), (9, .slice none 0 0)] _ ou7
          exact hQ w3.heap.size q7 d7 _ _ _ _ _ _ _ _ _ _ _ _ _ _ _ _ _ _ _ _ BE h6 BL BO ne7
      · skip
        intro K hK
        have A8 := Blk.new w2 (.cells #[.int .i64 0, .int .i64 0, .int .i64 0, .int .i64 0, .slice none 0 0, .string (ByteArray.mk #[]), .slice none 0 0, .slice none 0 0, .int .i64 0, .slice none 0 0] 45)
        have Y8 := R2.alloc R2.size (.cells #[.int .i64 0, .int .i64 0, .int .i64 0, .int .i64 0, .slice none 0 0, .string (ByteArray.mk #[]), .slice none 0 0, .slice none 0 0, .int .i64 0, .slice none 0 0] 45)
        have V8a := (then_ V2 Y8)
        have h8 : V.heap.size ≤ w2.heap.size := ((then_ V2 R2)).size
        go_simp
        refine hK.out _ _ (fun _ => Y8) ?_
        clear hK K
        try simp only [ap, List.set]
        generalize w2.alloc (.cells #[.int .i64 0, .int .i64 0, .int .i64 0, .int .i64 0, .slice none 0 0, .string (ByteArray.mk #[]), .slice none 0 0, .slice none 0 0, .int .i64 0, .slice none 0 0] 45) = wa8 at *
        refine wpAnyG_one (i := 12) (by kernel_rfl) rfl ?_
        intro K hK
        refine step_call1g (by rfl) 11 _ _ (by rfl) EN _ (by rfl) (some 112) (by rfl) _ (P2 _ (then_ V2 Y8)) ?_
        rintro v w9 ⟨q9, d9, rfl, l9, c9, b9⟩
        have X9 := then_ Y8 b9
        have V9 : Below V.heap.size V w9 := then_ V2 X9
        have s9 := V9.size
        have R9 : Below w9.heap.size w9 w9 := Below.refl _ _
        have F9 := A8.below b9
        have pl9 := A8.lt
        refine hK.out _ _ (fun _ => X9) ?_
        clear hK K
        refine wpAnyG_up (S' := fun W => Below w9.heap.size w9 W) (fun W h => then_ X9 h) _ _ _ _ ?_
        simp only [ap, List.set]
        refine tq 13 113 (.pointer (some ⟨q9, 0, none⟩)) R9 ?_ (hQ := fun c a w h => hp c a _ _ w h)
        simp only [ap, List.set]
        refine tq 14 114 (.int .i64 x2) R9 ?_ (hy := fun W h => by have cc := (h.cell (p := ⟨q9, 0, none⟩) l9).trans c9; go_simp) (hQ := fun c a w h => hp c a _ _ w h)
        simp only [ap, List.set]
        refine wpAnyG_one (i := 17) (by kernel_rfl) rfl ?_
        intro K hK
        refine step_call1g (by rfl) 11 _ _ (by rfl) EN _ (by rfl) (some 117) (by rfl) _ (P3 _ (then_ V9 R9)) ?_
        rintro v w10 ⟨q10, d10, rfl, o10, b10⟩
        have X10 := then_ R9 b10
        have V10 : Below V.heap.size V w10 := then_ V9 X10
        have s10 := V10.size
        have R10 : Below w10.heap.size w10 w10 := Below.refl _ _
        have F10 := F9.below b10
        have pl10 := F9.lt
        have ol10 := o10.lt
        have ou10 : OwnN w10 V.heap.size (.slice (some ⟨q10, 0, none⟩) (n - 5) d10) ows := OwnN.lows o10 (by have := ((then_ V9 R9)).size; omega)
        have ne10 : w2.heap.size ≠ q10 := by omega
        have nb10 : ¬ (Value.slice (some ⟨q10, 0, none⟩) (n - 5) d10).ownBlock = some w2.heap.size := fun e => ne10 (Option.some.inj e).symm
        refine hK.out _ _ (fun _ => X10) ?_
        clear hK K
        refine wpAnyG_up (S' := fun W => Below w10.heap.size w10 W) (fun W h => then_ X10 h) _ _ _ _ ?_
        simp only [ap, List.set]
        refine tq 18 118 (.agg #[.int .i64 x0, .int .i64 x1, .int .i64 x2, .int .i64 0, .slice none 0 0, .string (ByteArray.mk #[]), .slice none 0 0, (.slice (some ⟨q10, 0, none⟩) (n - 5) d10), .int .i64 0, .slice none 0 0]) R10 ?_ (hQ := fun c a w h => hp c a _ _ w h)
        simp only [ap, List.set]
        refine wpAnyG_one (i := 20) (by kernel_rfl) rfl ?_
        intro K hK
        have B0 := F10
        have wf := B0.warm
        obtain ⟨e0, e1, e2, e3, e4, e5, e6, e7, e8, e9⟩ := B0.ten
        go_simp
        refine hK.out _ _ (fun h => absurd h (by decide)) ?_
        clear hK K
        refine wpAnyG_done (by kernel_rfl) ?_ _
        have BL := B0.st10 (.int .i64 x0) (.int .i64 x1) (.int .i64 x2) (.int .i64 0) (.slice none 0 0) (.string (ByteArray.mk #[])) (.slice none 0 0) ((.slice (some ⟨q10, 0, none⟩) (n - 5) d10)) (.int .i64 0) (.slice none 0 0)
        have BE := Below.sets h8 [(0, .int .i64 x0), (1, .int .i64 x1), (2, .int .i64 x2), (3, .int .i64 0), (4, .slice none 0 0), (5, .string (ByteArray.mk #[])), (6, .slice none 0 0), (7, (.slice (some ⟨q10, 0, none⟩) (n - 5) d10)), (8, .int .i64 0), (9, .slice none 0 0)] _ V10
        have BO := OwnN.others nb10 [(0, .int .i64 x0), (1, .int .i64 x1), (2, .int .i64 x2), (3, .int .i64 0), (4, .slice none 0 0), (5, .string (ByteArray.mk #[])), (6, .slice none 0 0), (7, (.slice (some ⟨q10, 0, none⟩) (n - 5) d10)), (8, .int .i64 0), (9, .slice none 0 0)] _ ou10
        exact hQ w2.heap.size q10 d10 _ _ _ _ _ _ _ _ _ _ _ _ _ _ _ _ _ _ _ _ BE h8 BL BO ne10
    · skip
      intro K hK
      have A11 := Blk.new w1 (.cells #[.int .i64 0, .int .i64 0, .int .i64 0, .int .i64 0, .slice none 0 0, .string (ByteArray.mk #[]), .slice none 0 0, .slice none 0 0, .int .i64 0, .slice none 0 0] 45)
      have Y11 := R1.alloc R1.size (.cells #[.int .i64 0, .int .i64 0, .int .i64 0, .int .i64 0, .slice none 0 0, .string (ByteArray.mk #[]), .slice none 0 0, .slice none 0 0, .int .i64 0, .slice none 0 0] 45)
      have V11a := (then_ V1 Y11)
      have h11 : V.heap.size ≤ w1.heap.size := ((then_ V1 R1)).size
      go_simp
      refine hK.out _ _ (fun _ => Y11) ?_
      clear hK K
      try simp only [ap, List.set]
      generalize w1.alloc (.cells #[.int .i64 0, .int .i64 0, .int .i64 0, .int .i64 0, .slice none 0 0, .string (ByteArray.mk #[]), .slice none 0 0, .slice none 0 0, .int .i64 0, .slice none 0 0] 45) = wa11 at *
      refine wpAnyG_one (i := 7) (by kernel_rfl) rfl ?_
      intro K hK
      refine step_call1g (by rfl) 11 _ _ (by rfl) EN _ (by rfl) (some 107) (by rfl) _ (P1 _ (then_ V1 Y11)) ?_
      rintro v w12 ⟨q12, d12, rfl, l12, c12, b12⟩
      have X12 := then_ Y11 b12
      have V12 : Below V.heap.size V w12 := then_ V1 X12
      have s12 := V12.size
      have R12 : Below w12.heap.size w12 w12 := Below.refl _ _
      have F12 := A11.below b12
      have pl12 := A11.lt
      refine hK.out _ _ (fun _ => X12) ?_
      clear hK K
      refine wpAnyG_up (S' := fun W => Below w12.heap.size w12 W) (fun W h => then_ X12 h) _ _ _ _ ?_
      simp only [ap, List.set]
      refine tq 8 108 (.pointer (some ⟨q12, 0, none⟩)) R12 ?_ (hQ := fun c a w h => hp c a _ _ w h)
      simp only [ap, List.set]
      refine tq 9 109 (.int .i64 x1) R12 ?_ (hy := fun W h => by have cc := (h.cell (p := ⟨q12, 0, none⟩) l12).trans c12; go_simp) (hQ := fun c a w h => hp c a _ _ w h)
      simp only [ap, List.set]
      refine wpAnyG_one (i := 12) (by kernel_rfl) rfl ?_
      intro K hK
      refine step_call1g (by rfl) 11 _ _ (by rfl) EN _ (by rfl) (some 112) (by rfl) _ (P2 _ (then_ V12 R12)) ?_
      rintro v w13 ⟨q13, d13, rfl, l13, c13, b13⟩
      have X13 := then_ R12 b13
      have V13 : Below V.heap.size V w13 := then_ V12 X13
      have s13 := V13.size
      have R13 : Below w13.heap.size w13 w13 := Below.refl _ _
      have F13 := F12.below b13
      have pl13 := F12.lt
      refine hK.out _ _ (fun _ => X13) ?_
      clear hK K
      refine wpAnyG_up (S' := fun W => Below w13.heap.size w13 W) (fun W h => then_ X13 h) _ _ _ _ ?_
      simp only [ap, List.set]
      refine tq 13 113 (.pointer (some ⟨q13, 0, none⟩)) R13 ?_ (hQ := fun c a w h => hp c a _ _ w h)
      simp only [ap, List.set]
      refine tq 14 114 (.int .i64 x2) R13 ?_ (hy := fun W h => by have cc := (h.cell (p := ⟨q13, 0, none⟩) l13).trans c13; go_simp) (hQ := fun c a w h => hp c a _ _ w h)
      simp only [ap, List.set]
      refine wpAnyG_one (i := 17) (by kernel_rfl) rfl ?_
      intro K hK
      refine step_call1g (by rfl) 11 _ _ (by rfl) EN _ (by rfl) (some 117) (by rfl) _ (P3 _ (then_ V13 R13)) ?_
      rintro v w14 ⟨q14, d14, rfl, o14, b14⟩
      have X14 := then_ R13 b14
      have V14 : Below V.heap.size V w14 := then_ V13 X14
      have s14 := V14.size
      have R14 : Below w14.heap.size w14 w14 := Below.refl _ _
      have F14 := F13.below b14
      have pl14 := F13.lt
      have ol14 := o14.lt
      have ou14 : OwnN w14 V.heap.size (.slice (some ⟨q14, 0, none⟩) (n - 5) d14) ows := OwnN.lows o14 (by have := ((then_ V13 R13)).size; omega)
      have ne14 : w1.heap.size ≠ q14 := by omega
      have nb14 : ¬ (Value.slice (some ⟨q14, 0, none⟩) (n - 5) d14).ownBlock = some w1.heap.size := fun e => ne14 (Option.some.inj e).symm
      refine hK.out _ _ (fun _ => X14) ?_
      clear hK K
      refine wpAnyG_up (S' := fun W => Below w14.heap.size w14 W) (fun W h => then_ X14 h) _ _ _ _ ?_
      simp only [ap, List.set]
      refine tq 18 118 (.agg #[.int .i64 x0, .int .i64 x1, .int .i64 x2, .int .i64 0, .slice none 0 0, .string (ByteArray.mk #[]), .slice none 0 0, (.slice (some ⟨q14, 0, none⟩) (n - 5) d14), .int .i64 0, .slice none 0 0]) R14 ?_ (hQ := fun c a w h => hp c a _ _ w h)
      simp only [ap, List.set]
      refine wpAnyG_one (i := 20) (by kernel_rfl) rfl ?_
      intro K hK
      have B0 := F14
      have wf := B0.warm
      obtain ⟨e0, e1, e2, e3, e4, e5, e6, e7, e8, e9⟩ := B0.ten
      go_simp
      refine hK.out _ _ (fun h => absurd h (by decide)) ?_
      clear hK K
      refine wpAnyG_done (by kernel_rfl) ?_ _
      have BL := B0.st10 (.int .i64 x0) (.int .i64 x1) (.int .i64 x2) (.int .i64 0) (.slice none 0 0) (.string (ByteArray.mk #[])) (.slice none 0 0) ((.slice (some ⟨q14, 0, none⟩) (n - 5) d14)) (.int .i64 0) (.slice none 0 0)
      have BE := Below.sets h11 [(0, .int .i64 x0), (1, .int .i64 x1), (2, .int .i64 x2), (3, .int .i64 0), (4, .slice none 0 0), (5, .string (ByteArray.mk #[])), (6, .slice none 0 0), (7, (.slice (some ⟨q14, 0, none⟩) (n - 5) d14)), (8, .int .i64 0), (9, .slice none 0 0)] _ V14
      have BO := OwnN.others nb14 [(0, .int .i64 x0), (1, .int .i64 x1), (2, .int .i64 x2), (3, .int .i64 0), (4, .slice none 0 0), (5, .string (ByteArray.mk #[])), (6, .slice none 0 0), (7, (.slice (some ⟨q14, 0, none⟩) (n - 5) d14)), (8, .int .i64 0), (9, .slice none 0 0)] _ ou14
      exact hQ w1.heap.size q14 d14 _ _ _ _ _ _ _ _ _ _ _ _ _ _ _ _ _ _ _ _ BE h11 BL BO ne14
  · skip
    intro K hK
    have A15 := Blk.new w0 (.cells #[.int .i64 0, .int .i64 0, .int .i64 0, .int .i64 0, .slice none 0 0, .string (ByteArray.mk #[]), .slice none 0 0, .slice none 0 0, .int .i64 0, .slice none 0 0] 45)
    have Y15 := V0.alloc V0.size (.cells #[.int .i64 0, .int .i64 0, .int .i64 0, .int .i64 0, .slice none 0 0, .string (ByteArray.mk #[]), .slice none 0 0, .slice none 0 0, .int .i64 0, .slice none 0 0] 45)
    have V15a := Y15
    have h15 : V.heap.size ≤ w0.heap.size := (V0).size
    go_simp
    refine hK.out _ _ (fun _ => Y15) ?_
    clear hK K
    try simp only [ap, List.set]
    generalize w0.alloc (.cells #[.int .i64 0, .int .i64 0, .int .i64 0, .int .i64 0, .slice none 0 0, .string (ByteArray.mk #[]), .slice none 0 0, .slice none 0 0, .int .i64 0, .slice none 0 0] 45) = wa15 at *
    refine wpAnyG_one (i := 2) (by kernel_rfl) rfl ?_
    intro K hK
    refine step_call1g (by rfl) 11 _ _ (by rfl) EN _ (by rfl) (some 102) (by rfl) _ (P0 _ Y15) ?_
    rintro v w16 ⟨q16, d16, rfl, l16, c16, b16⟩
    have X16 := then_ Y15 b16
    have V16 : Below V.heap.size V w16 := X16
    have s16 := V16.size
    have R16 : Below w16.heap.size w16 w16 := Below.refl _ _
    have F16 := A15.below b16
    have pl16 := A15.lt
    refine hK.out _ _ (fun _ => X16) ?_
    clear hK K
    refine wpAnyG_up (S' := fun W => Below w16.heap.size w16 W) (fun W h => then_ X16 h) _ _ _ _ ?_
    simp only [ap, List.set]
    refine tq 3 103 (.pointer (some ⟨q16, 0, none⟩)) R16 ?_ (hQ := fun c a w h => hp c a _ _ w h)
    simp only [ap, List.set]
    refine tq 4 104 (.int .i64 x0) R16 ?_ (hy := fun W h => by have cc := (h.cell (p := ⟨q16, 0, none⟩) l16).trans c16; go_simp) (hQ := fun c a w h => hp c a _ _ w h)
    simp only [ap, List.set]
    refine wpAnyG_one (i := 7) (by kernel_rfl) rfl ?_
    intro K hK
    refine step_call1g (by rfl) 11 _ _ (by rfl) EN _ (by rfl) (some 107) (by rfl) _ (P1 _ (then_ V16 R16)) ?_
    rintro v w17 ⟨q17, d17, rfl, l17, c17, b17⟩
    have X17 := then_ R16 b17
    have V17 : Below V.heap.size V w17 := then_ V16 X17
    have s17 := V17.size
    have R17 : Below w17.heap.size w17 w17 := Below.refl _ _
    have F17 := F16.below b17
    have pl17 := F16.lt
    refine hK.out _ _ (fun _ => X17) ?_
    clear hK K
    refine wpAnyG_up (S' := fun W => Below w17.heap.size w17 W) (fun W h => then_ X17 h) _ _ _ _ ?_
    simp only [ap, List.set]
    refine tq 8 108 (.pointer (some ⟨q17, 0, none⟩)) R17 ?_ (hQ := fun c a w h => hp c a _ _ w h)
    simp only [ap, List.set]
    refine tq 9 109 (.int .i64 x1) R17 ?_ (hy := fun W h => by have cc := (h.cell (p := ⟨q17, 0, none⟩) l17).trans c17; go_simp) (hQ := fun c a w h => hp c a _ _ w h)
    simp only [ap, List.set]
    refine wpAnyG_one (i := 12) (by kernel_rfl) rfl ?_
    intro K hK
    refine step_call1g (by rfl) 11 _ _ (by rfl) EN _ (by rfl) (some 112) (by rfl) _ (P2 _ (then_ V17 R17)) ?_
    rintro v w18 ⟨q18, d18, rfl, l18, c18, b18⟩
    have X18 := then_ R17 b18
    have V18 : Below V.heap.size V w18 := then_ V17 X18
    have s18 := V18.size
    have R18 : Below w18.heap.size w18 w18 := Below.refl _ _
    have F18 := F17.below b18
    have pl18 := F17.lt
    refine hK.out _ _ (fun _ => X18) ?_
    clear hK K
    refine wpAnyG_up (S' := fun W => Below w18.heap.size w18 W) (fun W h => then_ X18 h) _ _ _ _ ?_
    simp only [ap, List.set]
    refine tq 13 113 (.pointer (some ⟨q18, 0, none⟩)) R18 ?_ (hQ := fun c a w h => hp c a _ _ w h)
    simp only [ap, List.set]
    refine tq 14 114 (.int .i64 x2) R18 ?_ (hy := fun W h => by have cc := (h.cell (p := ⟨q18, 0, none⟩) l18).trans c18; go_simp) (hQ := fun c a w h => hp c a _ _ w h)
    simp only [ap, List.set]
    refine wpAnyG_one (i := 17) (by kernel_rfl) rfl ?_
    intro K hK
    refine step_call1g (by rfl) 11 _ _ (by rfl) EN _ (by rfl) (some 117) (by rfl) _ (P3 _ (then_ V18 R18)) ?_
    rintro v w19 ⟨q19, d19, rfl, o19, b19⟩
    have X19 := then_ R18 b19
    have V19 : Below V.heap.size V w19 := then_ V18 X19
    have s19 := V19.size
    have R19 : Below w19.heap.size w19 w19 := Below.refl _ _
    have F19 := F18.below b19
    have pl19 := F18.lt
    have ol19 := o19.lt
    have ou19 : OwnN w19 V.heap.size (.slice (some ⟨q19, 0, none⟩) (n - 5) d19) ows := OwnN.lows o19 (by have := ((then_ V18 R18)).size; omega)
    have ne19 : w0.heap.size ≠ q19 := by omega
    have nb19 : ¬ (Value.slice (some ⟨q19, 0, none⟩) (n - 5) d19).ownBlock = some w0.heap.size := fun e => ne19 (Option.some.inj e).symm
    refine hK.out _ _ (fun _ => X19) ?_
    clear hK K
    refine wpAnyG_up (S' := fun W => Below w19.heap.size w19 W) (fun W h => then_ X19 h) _ _ _ _ ?_
    simp only [ap, List.set]
    refine tq 18 118 (.agg #[.int .i64 x0, .int .i64 x1, .int .i64 x2, .int .i64 0, .slice none 0 0, .string (ByteArray.mk #[]), .slice none 0 0, (.slice (some ⟨q19, 0, none⟩) (n - 5) d19), .int .i64 0, .slice none 0 0]) R19 ?_ (hQ := fun c a w h => hp c a _ _ w h)
    simp only [ap, List.set]
    refine wpAnyG_one (i := 20) (by kernel_rfl) rfl ?_
    intro K hK
    have B0 := F19
    have wf := B0.warm
    obtain ⟨e0, e1, e2, e3, e4, e5, e6, e7, e8, e9⟩ := B0.ten
    go_simp
    refine hK.out _ _ (fun h => absurd h (by decide)) ?_
    clear hK K
    refine wpAnyG_done (by kernel_rfl) ?_ _
    have BL := B0.st10 (.int .i64 x0) (.int .i64 x1) (.int .i64 x2) (.int .i64 0) (.slice none 0 0) (.string (ByteArray.mk #[])) (.slice none 0 0) ((.slice (some ⟨q19, 0, none⟩) (n - 5) d19)) (.int .i64 0) (.slice none 0 0)
    have BE := Below.sets h15 [(0, .int .i64 x0), (1, .int .i64 x1), (2, .int .i64 x2), (3, .int .i64 0), (4, .slice none 0 0), (5, .string (ByteArray.mk #[])), (6, .slice none 0 0), (7, (.slice (some ⟨q19, 0, none⟩) (n - 5) d19)), (8, .int .i64 0), (9, .slice none 0 0)] _ V19
    have BO := OwnN.others nb19 [(0, .int .i64 x0), (1, .int .i64 x1), (2, .int .i64 x2), (3, .int .i64 0), (4, .slice none 0 0), (5, .string (ByteArray.mk #[])), (6, .slice none 0 0), (7, (.slice (some ⟨q19, 0, none⟩) (n - 5) d19)), (8, .int .i64 0), (9, .slice none 0 0)] _ ou19
    exact hQ w0.heap.size q19 d19 _ _ _ _ _ _ _ _ _ _ _ _ _ _ _ _ _ _ _ _ BE h15 BL BO ne19
end Go.Proofs.YtjceaajnemgheaaGreatDoor
