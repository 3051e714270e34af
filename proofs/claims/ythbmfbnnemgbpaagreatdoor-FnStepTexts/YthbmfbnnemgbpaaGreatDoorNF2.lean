/- The reader's step. -/
import Derived.Test.YthbmfbnnemgbpaaGreatDoorZ0
import Derived.Test.YthbmfbnnemgbpaaGreatDoorNG1
import Derived.Test.YthbmfbnnemgbpaaGreatDoorNG2
import Derived.Deep.CutBlock
namespace Go.Proofs.YthbmfbnnemgbpaaGreatDoor
open Go Go.RowKit Go.Deep Go.Maps Go.BigFrame Go.Shelf
theorem step_results (tmps : Array Value) (W : World) (P : Nat) (x0 x1 x2 x3 x4 x5 x6 x7 x8 x9 : Value) (h : Blk W P (.cells #[x0, x1, x2, x3, x4, x5, x6, x7, x8, x9] 28)) (h2 : tmps[4]? = some (.pointer (some ⟨P, 0, none⟩))) :
 (results Tryz.f14 tmps).run Tryz.prog W = .ok (.agg #[x0, x1, x2, x3, x4, x5, x6, x7, x8, x9]) W := by
 obtain ⟨z0, z1, z2, z3, z4, z5, z6, z7, z8, z9⟩ := h.ten
 simp [results, Tryz.results14, go_sem, h2, z0, z1, z2, z3, z4, z5, z6, z7, z8, z9]
theorem switch_any (w0 w : World) (rb n cap : Nat) (a : Option Addr) (lt : List ThrV) (lo : List ObjV) (g ca q co B : Nat) (HS : Hid (KSt w B (.slice (some ⟨g, 0, none⟩) lt.length ca) (.slice (some ⟨q, 0, none⟩) lo.length co) lt lo)) (hr : rb < B) (OK : Hid (StF lt lo)) (lr : rb < w.heap.size) (on : 1 ≤ lo.length ∧ lo.length ≤ 271) (S L : Nat) (hS : w.heap.size + 1 < S) (sL : S < L) (x1 : Nat) (id_ ti : Int) (TI : Hid (ti = -1 ∨ ∃ t : Nat, ti = t ∧ t < lt.length)) (b : Int) (c : CatL) (cl : c.n ≤ 20) (kd : Int) (hkd : 1 ≤ kd ∧ kd ≤ 15) (wc : World) (T8 : Hid (StS w0 w wc rb a n cap lt lo g ca q co S ⟨1 + (x1 : Int), kd, 0, 0, 0, ⟨#[]⟩, 0, zeroC, 0, zeroC⟩)) (L8 : Hid (LabB wc L b c)) (u9 u10 u11 u12 u13 u14 u15 u16 u17 u18 u19 u20 u21 u22 u23 u24 u25 u26 u27 u28 u29 u30 u31 u32 u33 u34 u35 u36 u37 u38 u39 u40 u41 u42 u43 u44 u45 u46 u47 u48 u49 u50 u51 u52 u53 u54 u55 u56 u57 u58 u59 u60 u61 u62 u63 u64 u65 u66 u67 u68 u69 u70 u71 u72 u73 u74 u75 u76 u77 u78 u80 u81 u82 u83 u84 u85 u86 u87 u88 u89 u90 u91 u92 u93 u94 u95 u96 u97 u98 u99 u100 u101 u102 u103 u104 u105 u106 u107 u108 u109 u110 u111 u112 u113 u114 u115 u116 u117 u118 u119 u120 u121 u122 u123 u124 u125 u126 u127 u128 u129 u130 u131 u132 u133 u134 u135 u136 u137 u138 u139 u140 u141 u142 u143 u144 u145 u146 u147 u148 u149 u150 u151 u152 u153 u154 u155 u156 u157 u158 u159 u160 u161 u162 u163 u164 u165 u166 : Value) (K : Act → World → Prop) (Q' : Exit → Act → World → Prop) (hQ : ∀ c a d v w, Q' (.panic c) (Act.put a (some d) v) w → Q' (.panic c) a w)
 (hK : ∀ (v9 v10 v11 v12 v13 v14 v15 v16 v17 v18 v19 v20 v21 v22 v23 v24 v25 v26 v27 v28 v29 v30 v31 v32 v33 v34 v35 v36 v37 v38 v39 v40 v41 v42 v43 v44 v45 v46 v47 v48 v49 v50 v51 v52 v53 v54 v55 v56 v57 v58 v59 v60 v61 v62 v63 v64 v65 v66 v67 v68 v69 v70 v71 v72 v73 v74 v75 v76 v77 v78 v79 v80 v81 v82 v83 v84 v85 v86 v87 v88 v89 v90 v91 v92 v93 v94 v95 v96 v97 v98 v99 v100 v101 v102 v103 v104 v105 v106 v107 v108 v109 v110 v111 v112 v113 v114 v115 v116 v117 v118 v119 v120 v121 v122 v123 v124 v125 v126 v127 v128 v129 v130 v131 v132 v133 v134 v135 v136 v137 v138 v139 v140 v141 v142 v143 v144 v145 v146 v147 v148 v149 v150 v151 v152 v153 v154 v155 v156 v157 v158 v159 v160 v161 v162 v163 v164 v165 v166 : Value) (wd : World), (∃ s : StepV, StS w0 w wd rb a n cap lt lo g ca q co S s) → K ⟨List.toArray (.pointer (some ⟨rb, 0, none⟩) :: .agg #[.slice (some ⟨g, 0, none⟩) lt.length ca, .slice (some ⟨q, 0, none⟩) lo.length co] :: undef :: .pointer (some ⟨w.heap.size, 0, none⟩) :: .pointer (some ⟨w.heap.size + 1, 0, none⟩) :: .pointer (some ⟨S, 0, none⟩) :: .int .i64 id_ :: .pointer (some ⟨L, 0, none⟩) :: .int .i64 ti :: v9 :: v10 :: v11 :: v12 :: v13 :: v14 :: v15 :: v16 :: v17 :: v18 :: v19 :: v20 :: v21 :: v22 :: v23 :: v24 :: v25 :: v26 :: v27 :: v28 :: v29 :: v30 :: v31 :: v32 :: v33 :: v34 :: v35 :: v36 :: v37 :: v38 :: v39 :: v40 :: v41 :: v42 :: v43 :: v44 :: v45 :: v46 :: v47 :: v48 :: v49 :: v50 :: v51 :: v52 :: v53 :: v54 :: v55 :: v56 :: v57 :: v58 :: v59 :: v60 :: v61 :: v62 :: v63 :: v64 :: v65 :: v66 :: v67 :: v68 :: v69 :: v70 :: v71 :: v72 :: v73 :: v74 :: v75 :: v76 :: v77 :: v78 :: v79 :: v80 :: v81 :: v82 :: v83 :: v84 :: v85 :: v86 :: v87 :: v88 :: v89 :: v90 :: v91 :: v92 :: v93 :: v94 :: v95 :: v96 :: v97 :: v98 :: v99 :: v100 :: v101 :: v102 :: v103 :: v104 :: v105 :: v106 :: v107 :: v108 :: v109 :: v110 :: v111 :: v112 :: v113 :: v114 :: v115 :: v116 :: v117 :: v118 :: v119 :: v120 :: v121 :: v122 :: v123 :: v124 :: v125 :: v126 :: v127 :: v128 :: v129 :: v130 :: v131 :: v132 :: v133 :: v134 :: v135 :: v136 :: v137 :: v138 :: v139 :: v140 :: v141 :: v142 :: v143 :: v144 :: v145 :: v146 :: v147 :: v148 :: v149 :: v150 :: v151 :: v152 :: v153 :: v154 :: v155 :: v156 :: v157 :: v158 :: v159 :: v160 :: v161 :: v162 :: v163 :: v164 :: v165 :: v166 :: []), []⟩ wd) : (stepSw).wp Tryz.prog (Exit.then K Q') ⟨List.toArray (.pointer (some ⟨rb, 0, none⟩) :: .agg #[.slice (some ⟨g, 0, none⟩) lt.length ca, .slice (some ⟨q, 0, none⟩) lo.length co] :: undef :: .pointer (some ⟨w.heap.size, 0, none⟩) :: .pointer (some ⟨w.heap.size + 1, 0, none⟩) :: .pointer (some ⟨S, 0, none⟩) :: .int .i64 id_ :: .pointer (some ⟨L, 0, none⟩) :: .int .i64 ti :: u9 :: u10 :: u11 :: u12 :: u13 :: u14 :: u15 :: u16 :: u17 :: u18 :: u19 :: u20 :: u21 :: u22 :: u23 :: u24 :: u25 :: u26 :: u27 :: u28 :: u29 :: u30 :: u31 :: u32 :: u33 :: u34 :: u35 :: u36 :: u37 :: u38 :: u39 :: u40 :: u41 :: u42 :: u43 :: u44 :: u45 :: u46 :: u47 :: u48 :: u49 :: u50 :: u51 :: u52 :: u53 :: u54 :: u55 :: u56 :: u57 :: u58 :: u59 :: u60 :: u61 :: u62 :: u63 :: u64 :: u65 :: u66 :: u67 :: u68 :: u69 :: u70 :: u71 :: u72 :: u73 :: u74 :: u75 :: u76 :: u77 :: u78 :: .int .i64 kd :: u80 :: u81 :: u82 :: u83 :: u84 :: u85 :: u86 :: u87 :: u88 :: u89 :: u90 :: u91 :: u92 :: u93 :: u94 :: u95 :: u96 :: u97 :: u98 :: u99 :: u100 :: u101 :: u102 :: u103 :: u104 :: u105 :: u106 :: u107 :: u108 :: u109 :: u110 :: u111 :: u112 :: u113 :: u114 :: u115 :: u116 :: u117 :: u118 :: u119 :: u120 :: u121 :: u122 :: u123 :: u124 :: u125 :: u126 :: u127 :: u128 :: u129 :: u130 :: u131 :: u132 :: u133 :: u134 :: u135 :: u136 :: u137 :: u138 :: u139 :: u140 :: u141 :: u142 :: u143 :: u144 :: u145 :: u146 :: u147 :: u148 :: u149 :: u150 :: u151 :: u152 :: u153 :: u154 :: u155 :: u156 :: u157 :: u158 :: u159 :: u160 :: u161 :: u162 :: u163 :: u164 :: u165 :: u166 :: []), []⟩ wc := by
 by_cases h : kd ≤ 5
 ·exact switchA w0 w rb n cap a lt lo g ca q co B HS hr OK lr on S L hS sL x1 id_ ti TI b c cl kd (by omega) wc T8 L8 u9 u10 u11 u12 u13 u14 u15 u16 u17 u18 u19 u20 u21 u22 u23 u24 u25 u26 u27 u28 u29 u30 u31 u32 u33 u34 u35 u36 u37 u38 u39 u40 u41 u42 u43 u44 u45 u46 u47 u48 u49 u50 u51 u52 u53 u54 u55 u56 u57 u58 u59 u60 u61 u62 u63 u64 u65 u66 u67 u68 u69 u70 u71 u72 u73 u74 u75 u76 u77 u78 u80 u81 u82 u83 u84 u85 u86 u87 u88 u89 u90 u91 u92 u93 u94 u95 u96 u97 u98 u99 u100 u101 u102 u103 u104 u105 u106 u107 u108 u109 u110 u111 u112 u113 u114 u115 u116 u117 u118 u119 u120 u121 u122 u123 u124 u125 u126 u127 u128 u129 u130 u131 u132 u133 u134 u135 u136 u137 u138 u139 u140 u141 u142 u143 u144 u145 u146 u147 u148 u149 u150 u151 u152 u153 u154 u155 u156 u157 u158 u159 u160 u161 u162 u163 u164 u165 u166 K Q' hQ hK
 ·exact switchB w0 w rb n cap a lt lo g ca q co B HS hr OK lr on S L hS sL x1 id_ ti TI b c cl kd (by omega) wc T8 L8 u9 u10 u11 u12 u13 u14 u15 u16 u17 u18 u19 u20 u21 u22 u23 u24 u25 u26 u27 u28 u29 u30 u31 u32 u33 u34 u35 u36 u37 u38 u39 u40 u41 u42 u43 u44 u45 u46 u47 u48 u49 u50 u51 u52 u53 u54 u55 u56 u57 u58 u59 u60 u61 u62 u63 u64 u65 u66 u67 u68 u69 u70 u71 u72 u73 u74 u75 u76 u77 u78 u80 u81 u82 u83 u84 u85 u86 u87 u88 u89 u90 u91 u92 u93 u94 u95 u96 u97 u98 u99 u100 u101 u102 u103 u104 u105 u106 u107 u108 u109 u110 u111 u112 u113 u114 u115 u116 u117 u118 u119 u120 u121 u122 u123 u124 u125 u126 u127 u128 u129 u130 u131 u132 u133 u134 u135 u136 u137 u138 u139 u140 u141 u142 u143 u144 u145 u146 u147 u148 u149 u150 u151 u152 u153 u154 u155 u156 u157 u158 u159 u160 u161 u162 u163 u164 u165 u166 K Q' hQ hK
set_option maxRecDepth 100000 in
set_option maxHeartbeats 16000000 in
theorem rdStep_any (w0 : World) (rb : Nat) (a : Option Addr) (n cap : Nat) (w : World) (h : Rd w0 w rb a n cap) (lt : List ThrV) (lo : List ObjV) (g ca q co B : Nat) (st : KSt w B (.slice (some ⟨g, 0, none⟩) lt.length ca) (.slice (some ⟨q, 0, none⟩) lo.length co) lt lo) (hr : rb < B) (ok : StF lt lo) :
 Calls Tryz.prog 14 #[.pointer (some ⟨rb, 0, none⟩), .agg #[.slice (some ⟨g, 0, none⟩) lt.length ca, .slice (some ⟨q, 0, none⟩) lo.length co]] w fun e w' => ∃ s : StepV, e = .returned (.agg #[.int .i64 s.th, .int .i64 s.kind, .int .i64 s.id, .int .i64 s.to, .int .i64 s.cat, .string s.data, .int .i64 s.b1, .slice s.c1.a s.c1.n s.c1.k, .int .i64 s.b2, .slice s.c2.a s.c2.n s.c2.k]) ∧ (s.c1.new 0 w' ∧ s.c2.new 0 w' ∧ s.data.size ≤ 100) ∧ Rd w0 w' rb a n cap ∧ w.grownBy w' (some rb) := by
 have lr := h.lt
 have R0 := hid (((RSt.refl h).alloc (.cells #[.slice (some ⟨g, 0, none⟩) lt.length ca, .slice (some ⟨q, 0, none⟩) lo.length co] 42)).alloc (.cells #[.int .i64 0, .int .i64 0, .int .i64 0, .int .i64 0, .int .i64 0, .string (ByteArray.mk #[]), .int .i64 0, .slice none 0 0, .int .i64 0, .slice none 0 0] 28))
 have K0 : Hid (Blk ((w.alloc (.cells #[.slice (some ⟨g, 0, none⟩) lt.length ca, .slice (some ⟨q, 0, none⟩) lo.length co] 42)).alloc (.cells #[.int .i64 0, .int .i64 0, .int .i64 0, .int .i64 0, .int .i64 0, .string (ByteArray.mk #[]), .int .i64 0, .slice none 0 0, .int .i64 0, .slice none 0 0] 28)) w.heap.size (.cells #[.slice (some ⟨g, 0, none⟩) lt.length ca, .slice (some ⟨q, 0, none⟩) lo.length co] 42)) := hid ((Blk.new w _).alloc _)
 have Z0 : Hid (Blk ((w.alloc (.cells #[.slice (some ⟨g, 0, none⟩) lt.length ca, .slice (some ⟨q, 0, none⟩) lo.length co] 42)).alloc (.cells #[.int .i64 0, .int .i64 0, .int .i64 0, .int .i64 0, .int .i64 0, .string (ByteArray.mk #[]), .int .i64 0, .slice none 0 0, .int .i64 0, .slice none 0 0] 28)) (w.heap.size + 1) (.cells #[.int .i64 0, .int .i64 0, .int .i64 0, .int .i64 0, .int .i64 0, .string (ByteArray.mk #[]), .int .i64 0, .slice none 0 0, .int .i64 0, .slice none 0 0] 28)) := hid (by have := Blk.new (w.alloc (.cells #[.slice (some ⟨g, 0, none⟩) lt.length ca, .slice (some ⟨q, 0, none⟩) lo.length co] 42)) (.cells #[.int .i64 0, .int .i64 0, .int .i64 0, .int .i64 0, .int .i64 0, .string (ByteArray.mk #[]), .int .i64 0, .slice none 0 0, .int .i64 0, .slice none 0 0] 28); simpa using this)
 have v0 : w.heap.size + 2 ≤ ((w.alloc (.cells #[.slice (some ⟨g, 0, none⟩) lt.length ca, .slice (some ⟨q, 0, none⟩) lo.length co] 42)).alloc (.cells #[.int .i64 0, .int .i64 0, .int .i64 0, .int .i64 0, .int .i64 0, .string (ByteArray.mk #[]), .int .i64 0, .slice none 0 0, .int .i64 0, .slice none 0 0] 28)).heap.size := by simp
 have HS := hid st
 have OK := hid ok
 have tn := ok.tn
 have on := ok.on
 clear h st ok
 go_enter Tryz.func14, Tryz.ntmps14
 go_wp2_with fail
 generalize ((w.alloc (.cells #[.slice (some ⟨g, 0, none⟩) lt.length ca, .slice (some ⟨q, 0, none⟩) lo.length co] 42)).alloc (.cells #[.int .i64 0, .int .i64 0, .int .i64 0, .int .i64 0, .int .i64 0, .string (ByteArray.mk #[]), .int .i64 0, .slice none 0 0, .int .i64 0, .slice none 0 0] 28)) = V at *
 refine (rdBelow_any w0 rb a n cap 3 _ (by omega) R0.out.r).mono ?_
 rintro e u1 ⟨x1, rfl, _, hx1, r1, g1⟩
 have x1l := hx1 (by omega)
 have R1 := hid (R0.out.call r1 g1)
 have K1 := hid (K0.out.grown g1 (by simp; omega))
 have Z1 := hid (Z0.out.grown g1 (by simp; omega))
 have v1 : w.heap.size + 2 ≤ u1.heap.size := Nat.le_trans v0 g1.size
 have w1_ : IntKind.i64.wrap (1 + (x1 : Int)) = 1 + (x1 : Int) := by rw [IntKind.wrap_i64]; omega
 clear r1 g1 hx1 R0 K0 Z0 v0
 go_wp2_with fail
 refine (rdBelow_any w0 rb a n cap 15 _ (by omega) R1.out.r).mono ?_
 rintro e u2 ⟨x2, rfl, _, hx2, r2, g2⟩
 have x2l := hx2 (by omega)
 have R2 := hid (R1.out.call r2 g2)
 have K2 := hid (K1.out.grown g2 (by simp; omega))
 have Z2 := hid (Z1.out.grown g2 (by simp; omega))
 have v2 : w.heap.size + 2 ≤ u2.heap.size := Nat.le_trans v1 g2.size
 have w2_ : IntKind.i64.wrap (1 + (x2 : Int)) = 1 + (x2 : Int) := by rw [IntKind.wrap_i64]; omega
 clear r2 g2 hx2 R1 K1 Z1 v1
 have T2 : Hid (StS w0 w (u2.alloc (.cells #[.int .i64 (1 + (x1 : Int)), .int .i64 (1 + (x2 : Int)), .int .i64 0, .int .i64 0, .int .i64 0, .string (ByteArray.mk #[]), .int .i64 0, .slice none 0 0, .int .i64 0, .slice none 0 0] 28)) rb a n cap lt lo g ca q co u2.heap.size ⟨1 + (x1 : Int), 1 + (x2 : Int), 0, 0, 0, ⟨#[]⟩, 0, zeroC, 0, zeroC⟩) := hid (by
  have b := (Below.refl _ u2).alloc (Nat.le_refl _) (.cells #[.int .i64 (1 + (x1 : Int)), .int .i64 (1 + (x2 : Int)), .int .i64 0, .int .i64 0, .int .i64 0, .string (ByteArray.mk #[]), .int .i64 0, .slice none 0 0, .int .i64 0, .slice none 0 0] 28)
  exact ⟨R2.out.below b, K2.out.below b, Z2.out.below b, Blk.new u2 _, zeroC_new, zeroC_new, Nat.zero_le _⟩)
 clear R2 K2 Z2
 go_wp2_with fail
 generalize u2.alloc (.cells #[.int .i64 (1 + (x1 : Int)), .int .i64 (1 + (x2 : Int)), .int .i64 0, .int .i64 0, .int .i64 0, .string (ByteArray.mk #[]), .int .i64 0, .slice none 0 0, .int .i64 0, .slice none 0 0] 28) = U2 at *
 generalize u2.heap.size = S at *
 refine (once_any w0 rb a n cap 3 _ (by omega) T2.out.rs.r).mono ?_
 rintro e u3 ⟨t, rfl, r3, g3⟩
 have T3 := hid (T2.out.call lr (by omega) r3 g3)
 clear r3 g3 T2
 go_upto_if 17 with fail
 go_cut [] from 9 (fun wc => ∃ kd : Int, (1 ≤ kd ∧ kd ≤ 15) ∧ StS w0 w wc rb a n cap lt lo g ca q co S ⟨1 + (x1 : Int), kd, 0, 0, 0, ⟨#[]⟩, 0, zeroC, 0, zeroC⟩)
 case first =>
  cases t with
  | false =>
   go_wp2_with fail
   go_meet
   case rel => exact ⟨1 + (x2 : Int), by omega, T3.out⟩
  | true =>
   go_wp2_with fail
   have B0 : Hid (∀ o, StS w0 w (u3.alloc o) rb a n cap lt lo g ca q co S ⟨1 + (x1 : Int), 1 + (x2 : Int), 0, 0, 0, ⟨#[]⟩, 0, zeroC, 0, zeroC⟩) := hid (fun o => T3.out.alloc o)
   refine (rdBelow_any w0 rb a n cap 6 _ (by omega) (B0.out _).rs.r).mono ?_
   rintro e u4 ⟨y, rfl, _, hy, r4, g4⟩
   have y6 := hy (by omega)
   have T4 := hid ((B0.out _).call lr (by omega) r4 g4)
   have s3 : rb < u3.heap.size := by have := T3.out.rs.g.size; omega
   have Y := hid ((Blk.new u3 _).grown g4 (by simp; omega))
   clear r4 g4 hy B0 T3
   have yc := Y.out.c0
   have c0 := yc 0 rfl
   have c1 := yc 1 rfl
   have c2 := yc 2 rfl
   have c3 := yc 3 rfl
   have c4 := yc 4 rfl
   have c5 := yc 5 rfl
   clear yc
   obtain ⟨s0, s1, s2, s3, s4, s5, s6, s7, s8, s9⟩ := T4.out.sb.ten
   have sf := T4.out.sb.warm
   have cs : y = 0 ∨ y = 1 ∨ y = 2 ∨ y = 3 ∨ y = 4 ∨ y = 5 := by omega
   rcases cs with rfl | rfl | rfl | rfl | rfl | rfl
   ·go_wp2_with fail
    go_meet
    case rel => exact ⟨1, by omega, T4.out.put (s' := ⟨1 + (x1 : Int), 1, 0, 0, 0, ⟨#[]⟩, 0, zeroC, 0, zeroC⟩) lr (by omega) (T4.out.sb.setAt (i := 1) _) zeroC_new zeroC_new (Nat.zero_le _)⟩
   ·go_wp2_with fail
    go_meet
    case rel => exact ⟨2, by omega, T4.out.put (s' := ⟨1 + (x1 : Int), 2, 0, 0, 0, ⟨#[]⟩, 0, zeroC, 0, zeroC⟩) lr (by omega) (T4.out.sb.setAt (i := 1) _) zeroC_new zeroC_new (Nat.zero_le _)⟩
   ·go_wp2_with fail
    go_meet
    case rel => exact ⟨3, by omega, T4.out.put (s' := ⟨1 + (x1 : Int), 3, 0, 0, 0, ⟨#[]⟩, 0, zeroC, 0, zeroC⟩) lr (by omega) (T4.out.sb.setAt (i := 1) _) zeroC_new zeroC_new (Nat.zero_le _)⟩
   ·go_wp2_with fail
    go_meet
    case rel => exact ⟨4, by omega, T4.out.put (s' := ⟨1 + (x1 : Int), 4, 0, 0, 0, ⟨#[]⟩, 0, zeroC, 0, zeroC⟩) lr (by omega) (T4.out.sb.setAt (i := 1) _) zeroC_new zeroC_new (Nat.zero_le _)⟩
   ·go_wp2_with fail
    go_meet
    case rel => exact ⟨6, by omega, T4.out.put (s' := ⟨1 + (x1 : Int), 6, 0, 0, 0, ⟨#[]⟩, 0, zeroC, 0, zeroC⟩) lr (by omega) (T4.out.sb.setAt (i := 1) _) zeroC_new zeroC_new (Nat.zero_le _)⟩
   ·go_wp2_with fail
    go_meet
    case rel => exact ⟨9, by omega, T4.out.put (s' := ⟨1 + (x1 : Int), 9, 0, 0, 0, ⟨#[]⟩, 0, zeroC, 0, zeroC⟩) lr (by omega) (T4.out.sb.setAt (i := 1) _) zeroC_new zeroC_new (Nat.zero_le _)⟩
 case rest =>
  obtain ⟨kd, hkd, T5_⟩ := hcut
  have T5 := hid T5_
  clear T5_
  obtain ⟨x0, x1c⟩ := T5.out.k.two
  clear T3
  go_wp2_with fail
  refine (rdId_any w0 rb a n cap wc T5.out.rs.r lt lo g ca q co B (HS.out.grownR T5.out.rs.g hr) hr on.1 (by omega) (OK.out.data) (OK.out.id)).mono ?_
  rintro e u5 ⟨id_, rfl, hid_, r5, g5⟩
  have T6 := hid (T5.out.call lr (by omega) r5 g5)
  clear r5 g5 T5 x0 x1c
  go_wp2_with fail
  refine (rdLabel_any w0 rb a n cap u5 T6.out.rs.r).mono ?_
  rintro e u6 ⟨b, l, va, vc, rfl, ll, ol, r6, g6⟩
  have T7 := hid ((T6.out.call lr (by omega) r6 g6).alloc (.cells #[.int .i64 b, .slice va l.length vc] 26))
  have L7 : Hid (LabB (u6.alloc (.cells #[.int .i64 b, .slice va l.length vc] 26)) u6.heap.size b ⟨va, l.length, vc, fstAt l, sndAt l⟩) := hid ⟨Blk.new u6 _, ((ownCats_new ol (by omega)).low (Nat.zero_le _)).below ((Below.refl _ u6).alloc (Nat.le_refl _) _)⟩
  have sL : S < u6.heap.size := (T6.out.call lr (by omega) r6 g6).sb.lt
  clear r6 g6 ol T6
  obtain ⟨c, ec⟩ : ∃ c : CatL, c = ⟨va, l.length, vc, fstAt l, sndAt l⟩ := ⟨_, rfl⟩
  rw [← ec] at L7
  have cl : c.n ≤ 3 := by rw [ec]; exact ll
  obtain ⟨x0, x1c⟩ := T7.out.k.two
  obtain ⟨s0, s1, s2, s3, s4, s5, s6, s7, s8, s9⟩ := T7.out.sb.ten
  have sf := T7.out.sb.warm
  go_wp2_with fail
  clear s0 s1 s2 s3 s4 s5 s6 s7 s8 s9 sf x0 x1c
  generalize u6.alloc (.cells #[.int .i64 b, .slice va l.length vc] 26) = U6 at *
  generalize u6.heap.size = L at *
  refine (thread_v (HS.out.grownR T7.out.rs.g hr) (by omega) (by omega) (OK.out.data) (1 + (x1 : Int))).mono ?_
  rintro e u7 ⟨rfl, hb7⟩
  have T7b := hid (T7.out.below hb7)
  have L7b := hid (L7.out.below hb7)
  clear hb7 T7 L7 ec ll
  obtain ⟨ti, eti⟩ : ∃ ti, ti = idxI (atT lt (1 + (x1 : Int))) := ⟨_, rfl⟩
  have TI : Hid (ti = -1 ∨ ∃ t : Nat, ti = t ∧ t < lt.length) := hid (by
   rw [eti]
   cases e : atT lt (1 + (x1 : Int)) with
   | none => exact .inl rfl
   | some t => exact .inr ⟨t, rfl, (findI_some e).1⟩)
  rw [← eti]
  clear eti
  go_upto_region 7 with fail
  go_cut [38] from 9 (fun v wc => ∃ bb : Bool, v = .bool bb ∧ (bb = true → ∃ t : Nat, ti = t ∧ t < lt.length) ∧ StS w0 w wc rb a n cap lt lo g ca q co S ⟨1 + (x1 : Int), kd, 0, 0, 0, ⟨#[]⟩, 0, zeroC, 0, zeroC⟩ ∧ LabB wc L b c)
  case first =>
   rcases TI.out with e | ⟨t, e, ht⟩
   ·subst e
    go_wp2_with fail
    go_meet
    case rel => exact ⟨false, rfl, (fun h => by cases h), T7b.out, L7b.out⟩
   ·subst e
    have j1 : ¬ (t : Int) < 0 := by omega
    have j2 : (0 : Int) ≤ (t : Int) := by omega
    go_wp2_with fail
    refine (once_any w0 rb a n cap 2 _ (by omega) T7b.out.rs.r).mono ?_
    rintro e u8 ⟨bb, rfl, r8, g8⟩
    have T8 := hid (T7b.out.call lr (by omega) r8 g8)
    have L8 := hid (L7b.out.call (by omega) T7b.out.rs.r g8)
    clear r8 g8
    go_wp2_with fail
    go_meet
    case rel => exact ⟨bb, rfl, fun _ => ⟨t, rfl, ht⟩, T8.out, L8.out⟩
  case rest =>
  obtain ⟨bb, rfl, hbb, T8_, L8_⟩ := hcut
  have T8 := hid T8_
  have L8 := hid L8_
  have HBB := hid hbb
  clear T7b L7b hbb T8_ L8_
  go_upto_if 38 with fail
  go_cut [] from 9 (fun wc => ∃ (b : Int) (c : CatL), c.n ≤ 20 ∧ StS w0 w wc rb a n cap lt lo g ca q co S ⟨1 + (x1 : Int), kd, 0, 0, 0, ⟨#[]⟩, 0, zeroC, 0, zeroC⟩ ∧ LabB wc L b c)
  case first =>
   cases bb with
   | false =>
    go_wp2_with fail
    go_meet
    case rel => exact ⟨b, c, by omega, T8.out, L8.out⟩
   | true =>
    obtain ⟨t, e, ht⟩ := HBB.out rfl
    subst e
    obtain ⟨X, eX⟩ : ∃ X, X = lt[t] := ⟨_, rfl⟩
    have XF := OK.out.thr X (by rw [eX]; exact List.getElem_mem ht)
    have x10 := own_n XF.1
    have EX := hid eX
    have i0 : (0 : Int) ≤ (t : Int) := by omega
    have i1 : (t : Int) < (lt.length : Int) := by omega
    have TC : Hid (∀ W, w.grownBy W (some rb) → W.cell? ⟨g, t * 7, none⟩ = some (.int .i64 X.id) ∧ W.cell? ⟨g, t * 7 + 1, none⟩ = some (.int .i64 X.b1) ∧ W.cell? ⟨g, t * 7 + 2, none⟩ = some (.slice X.c1.a X.c1.n X.c1.k) ∧ W.cell? ⟨g, t * 7 + 3, none⟩ = some (.int .i64 X.b2) ∧ W.cell? ⟨g, t * 7 + 4, none⟩ = some (.slice X.c2.a X.c2.n X.c2.k) ∧ W.cell? ⟨g, t * 7 + 5, none⟩ = some (.slice X.own.a X.own.n X.own.k) ∧ W.cell? ⟨g, t * 7 + 6, none⟩ = some (.int .i64 X.made)) := hid (fun W hW => by
     have C := ((HS.out.grownR hW hr).cell7 ht).1
     rw [← EX.out] at C
     exact ⟨C.c0, C.c1, C.c2, C.c3, C.c4, C.c5, C.c6⟩)
    have XN : Hid (∀ W, w.grownBy W (some rb) → X.new B W) := hid (fun W hW => by rw [EX.out]; exact (HS.out.grownR hW hr).tn _ (List.getElem_mem ht))
    clear eX
    have x20 := (lab_rise XF.2).2
    have j1 : ¬ (t : Int) < 0 := by omega
    obtain ⟨x0, x1c⟩ := T8.out.k.two
    obtain ⟨l0, l1⟩ := L8.out.l.two
    have lf := L8.out.l.warm
    obtain ⟨c0, c1, c2, c3, c4, c5, c6⟩ := TC.out _ T8.out.rs.g
    have LW : Hid (LabB ((wc.setCell ⟨L, 0, none⟩ (.int .i64 X.b1)).setCell ⟨L, 1, none⟩ (.slice X.c1.a X.c1.n X.c1.k)) L X.b1 X.c1) := hid ⟨(L8.out.l.setAt (i := 0) _).setAt (i := 1) _, (((XN.out _ T8.out.rs.g).1.low (Nat.zero_le _)).keeps (keeps_set L8.out.l (by decide) _)).keeps (keeps_set (L8.out.l.setAt (i := 0) _) (by decide) _)⟩
    have TW := hid ((T8.out.other (i := 0) lr L8.out.l (by decide) (by omega) (by omega) (.int .i64 X.b1)).other (i := 1) lr (L8.out.l.setAt (i := 0) _) (by decide) (by omega) (by omega) (.slice X.c1.a X.c1.n X.c1.k))
    go_wp2_with fail
    clear l0 l1 lf x0 x1c c0 c1 c2 c3 c4 c5 c6
    generalize (wc.setCell ⟨L, 0, none⟩ (.int .i64 X.b1)).setCell ⟨L, 1, none⟩ (.slice X.c1.a X.c1.n X.c1.k) = W9 at *
    refine (once_any w0 rb a n cap 2 _ (by omega) TW.out.rs.r).mono ?_
    rintro e u9 ⟨b9, rfl, r9, g9⟩
    have T9 := hid (TW.out.call lr (by omega) r9 g9)
    have L9 := hid (LW.out.call (by omega) TW.out.rs.r g9)
    clear r9 g9 TW LW T8 L8 cl
    obtain ⟨b_, eb⟩ : ∃ b_, b_ = X.b1 := ⟨_, rfl⟩
    obtain ⟨c_, ec⟩ : ∃ c_, c_ = X.c1 := ⟨_, rfl⟩
    rw [← eb, ← ec] at L9
    have cl : c_.n ≤ 12 := by rw [ec]; exact x20
    clear eb ec b c x20
    obtain ⟨b, eb⟩ : ∃ b, b = b_ := ⟨_, rfl⟩
    obtain ⟨c, ec⟩ : ∃ c, c = c_ := ⟨_, rfl⟩
    subst eb ec
    obtain ⟨x0, x1c⟩ := T9.out.k.two
    obtain ⟨c0, c1, c2, c3, c4, c5, c6⟩ := TC.out _ T9.out.rs.g
    cases b9 with
    | false =>
     go_wp2_with fail
     go_meet
     case rel => exact ⟨_, _, by omega, T9.out, L9.out⟩
    | true =>
     by_cases n0 : 0 < X.own.n
     ·have n1 : decide ((0 : Int) < (X.own.n : Int)) = true := decide_eq_true (by omega)
      have n2 : (0 : Int) < (X.own.n : Int) := by omega
      obtain ⟨ob, hob⟩ : ∃ ob, X.own.a = some ⟨ob, 0, none⟩ := by
       obtain ⟨o', _, _, e, _⟩ := (XN.out w (grown_refl w rb)).2.2.2 (by omega)
       exact ⟨o', e⟩
      have EOA := hid hob
      have OWC : Hid (∀ W, w.grownBy W (some rb) → ∀ y, y < X.own.n → W.cell? ⟨ob, y, none⟩ = some (.int .i64 (X.own.h y))) := hid (fun W hW y hy => by
       obtain ⟨b', off, e, _, hc⟩ := (XN.out W hW).2.2.1.2 (by omega)
       rw [EOA.out] at e
       cases e
       have := hc y hy
       rw [Nat.zero_add] at this
       exact this)
      clear hob
      go_wp2_with fail
      clear x0 x1c c0 c1 c2 c3 c4 c5 c6
      have DR : Hid (StS w0 w u9.drew rb a n cap lt lo g ca q co S ⟨1 + (x1 : Int), kd, 0, 0, 0, ⟨#[]⟩, 0, zeroC, 0, zeroC⟩ ∧ LabB u9.drew L b c) := hid ⟨T9.out.below (below_drew (Below.refl _ u9)), L9.out.below (below_drew (Below.refl _ u9))⟩
      have F1 : Hid (∀ W, StS w0 w W rb a n cap lt lo g ca q co S ⟨1 + (x1 : Int), kd, 0, 0, 0, ⟨#[]⟩, 0, zeroC, 0, zeroC⟩ ∧ LabB W L b c → Calls Tryz.prog 34 #[.pointer (some ⟨rb, 0, none⟩), .int .i64 (X.own.n : Int)] W fun e w' => ∃ v, e = .returned v ∧ (∃ u : Nat, v = .int .i64 (u : Int) ∧ u < X.own.n ∧ (StS w0 w w' rb a n cap lt lo g ca q co S ⟨1 + (x1 : Int), kd, 0, 0, 0, ⟨#[]⟩, 0, zeroC, 0, zeroC⟩ ∧ LabB w' L b c))) := hid (fun W hW => (rdBelow_any w0 rb a n cap X.own.n W (by omega) hW.1.rs.r).mono fun e w' ⟨x, e1, _, hx, r, g'⟩ => ⟨_, e1, x, rfl, hx (by omega), hW.1.call lr (by omega) r g', hW.2.call (by omega) hW.1.rs.r g'⟩)
      have F4 : Hid (∀ W, StS w0 w W rb a n cap lt lo g ca q co S ⟨1 + (x1 : Int), kd, 0, 0, 0, ⟨#[]⟩, 0, zeroC, 0, zeroC⟩ ∧ LabB W L b c → Calls Tryz.prog 34 #[.pointer (some ⟨rb, 0, none⟩), .int .i64 4] W fun e w' => ∃ v, e = .returned v ∧ (∃ u : Nat, v = .int .i64 (u : Int) ∧ u < 4 ∧ (StS w0 w w' rb a n cap lt lo g ca q co S ⟨1 + (x1 : Int), kd, 0, 0, 0, ⟨#[]⟩, 0, zeroC, 0, zeroC⟩ ∧ LabB w' L b c))) := hid (fun W hW => (rdBelow_any w0 rb a n cap 4 W (by omega) hW.1.rs.r).mono fun e w' ⟨x, e1, _, hx, r, g'⟩ => ⟨_, e1, x, rfl, hx (by omega), hW.1.call lr (by omega) r g', hW.2.call (by omega) hW.1.rs.r g'⟩)
      have FW : Hid (∀ W, StS w0 w W rb a n cap lt lo g ca q co S ⟨1 + (x1 : Int), kd, 0, 0, 0, ⟨#[]⟩, 0, zeroC, 0, zeroC⟩ ∧ LabB W L b c → ∀ (x y : Int), Calls Tryz.prog 39 #[.agg #[.int .i64 b, .slice c.a c.n c.k], .int .i64 x, .int .i64 y] W fun e w' => ∃ v, e = .returned v ∧ (∃ d : CatL, v = .agg #[.int .i64 b, .slice d.a d.n d.k] ∧ (StS w0 w w' rb a n cap lt lo g ca q co S ⟨1 + (x1 : Int), kd, 0, 0, 0, ⟨#[]⟩, 0, zeroC, 0, zeroC⟩ ∧ LabB w' L b c) ∧ d.new 0 w' ∧ d.n ≤ c.n + 1)) := hid (fun W hW x y => (l1With_any b c.a c.n c.k c.f c.g x y W (by omega) hW.2.cn.1.2).mono fun e w' ⟨va, vc, e1, ol, hb⟩ => ⟨_, e1, ⟨va, (insFin b c.n c.f c.g x y).length, vc, fstAt (insFin b c.n c.f c.g x y), sndAt (insFin b c.n c.f c.g x y)⟩, rfl, ⟨hW.1.below hb, hW.2.below hb⟩, (ownCats_new ol (by have := insFin_len1 b c.n c.f c.g x y; omega)).low (Nat.zero_le _), insFin_len1 b c.n c.f c.g x y⟩)
      have E2 : Hid (∀ args w, (callFunc 39 args).run Tryz.prog w = .ok (.enter 39 args) w) := hid (enters_of Tryz.func39 (by kernel_rfl) rfl)
      have E1 : Hid (∀ args w, (callFunc 34 args).run Tryz.prog w = .ok (.enter 34 args) w) := hid (enters_of Tryz.func34 (by kernel_rfl) rfl)
      refine wp_region_G 21 (fun W => StS w0 w W rb a n cap lt lo g ca q co S ⟨1 + (x1 : Int), kd, 0, 0, 0, ⟨#[]⟩, 0, zeroC, 0, zeroC⟩ ∧ LabB W L b c) (by kernel_rfl) ?_
      refine tq 0 57 (.agg #[.int .i64 b, .slice c.a c.n c.k]) DR.out ?_ (hy := fun W h => by obtain ⟨z0, z1⟩ := h.2.l.two; go_simp)
      simp only [ap, List.set]
      refine tq 1 58 (.pointer (some ⟨w.heap.size, 0, none⟩)) DR.out ?_
      simp only [ap, List.set]
      refine tq 2 59 (.slice (some ⟨g, 0, none⟩) lt.length ca) DR.out ?_ (hy := fun W h => by obtain ⟨z0, z1⟩ := h.1.k.two; go_simp)
      simp only [ap, List.set]
      refine tq 3 60 (.int .i64 t) DR.out ?_
      simp only [ap, List.set]
      refine tq 4 61 (.pointer (some ⟨g, t * 7, none⟩)) DR.out ?_
      simp only [ap, List.set]
      refine tq 5 62 (.pointer (some ⟨g, t * 7 + 5, none⟩)) DR.out ?_
      simp only [ap, List.set]
      refine tq 6 63 (.slice X.own.a X.own.n X.own.k) DR.out ?_ (hy := fun W h => by obtain ⟨z0, z1, z2, z3, z4, z5, z6⟩ := TC.out W h.1.rs.g; go_simp)
      simp only [ap, List.set]
      refine tq 7 64 (.pointer (some ⟨rb, 0, none⟩)) DR.out ?_
      simp only [ap, List.set]
      refine tq 8 65 (.pointer (some ⟨w.heap.size, 0, none⟩)) DR.out ?_
      simp only [ap, List.set]
      refine tq 9 66 (.slice (some ⟨g, 0, none⟩) lt.length ca) DR.out ?_ (hy := fun W h => by obtain ⟨z0, z1⟩ := h.1.k.two; go_simp)
      simp only [ap, List.set]
      refine tq 10 67 (.int .i64 t) DR.out ?_
      simp only [ap, List.set]
      refine tq 11 68 (.pointer (some ⟨g, t * 7, none⟩)) DR.out ?_
      simp only [ap, List.set]
      refine tq 12 69 (.pointer (some ⟨g, t * 7 + 5, none⟩)) DR.out ?_
      simp only [ap, List.set]
      refine tq 13 70 (.slice X.own.a X.own.n X.own.k) DR.out ?_ (hy := fun W h => by obtain ⟨z0, z1, z2, z3, z4, z5, z6⟩ := TC.out W h.1.rs.g; go_simp)
      simp only [ap, List.set]
      refine tq 14 71 (.int .i64 (X.own.n : Int)) DR.out ?_
      simp only [ap, List.set]
      refine tq 18 75 (.pointer (some ⟨rb, 0, none⟩)) DR.out ?_
      simp only [ap, List.set]
      generalize u9.drew = WD at *
      refine wpAnyG_one (i := 15) (by kernel_rfl) rfl ?_
      intro K hK
      refine step_call2g (by rfl) 34 _ _ _ (by rfl) E1.out _ _ (by rfl) (by rfl) (some 72) (by rfl) _ (F1.out _ DR.out) ?_
      rintro v w2 ⟨y, rfl, yl, hS⟩
      have H1 := hid hS
      refine hK.out _ _ (fun _ => H1.out) ?_
      clear hK K hS
      simp only [ap, List.set]
      have y1 : (y : Int) < (X.own.n : Int) := by omega
      have y2 : (0 : Int) ≤ (y : Int) := by omega
      have YC : Hid (∀ W, StS w0 w W rb a n cap lt lo g ca q co S ⟨1 + (x1 : Int), kd, 0, 0, 0, ⟨#[]⟩, 0, zeroC, 0, zeroC⟩ ∧ LabB W L b c → W.cell? ⟨ob, y, none⟩ = some (.int .i64 (X.own.h y))) := hid (fun W hW => OWC.out W hW.1.rs.g y yl)
      refine tq 16 73 (.pointer (some ⟨ob, y, none⟩)) H1.out ?_ (hy := fun W h => by rw [EOA.out]; go_simp)
      simp only [ap, List.set]
      refine tq 17 74 (.int .i64 (X.own.h y)) H1.out ?_ (hy := fun W h => by have z := YC.out W h; go_simp)
      simp only [ap, List.set]
      refine wpAnyG_one (i := 19) (by kernel_rfl) rfl ?_
      intro K hK
      refine step_call2g (by rfl) 34 _ _ _ (by rfl) E1.out _ _ (by rfl) (by rfl) (some 76) (by rfl) _ (F4.out _ H1.out) ?_
      rintro v w3 ⟨lv, rfl, lvl, hS⟩
      have H2 := hid hS
      refine hK.out _ _ (fun _ => H2.out) ?_
      clear hK K hS
      simp only [ap, List.set]
      refine wpAnyG_one (i := 20) (by kernel_rfl) rfl ?_
      intro K hK
      refine step_call3g (by rfl) 39 _ _ _ _ (by rfl) E2.out _ _ _ (by rfl) (by rfl) (by rfl) (some 77) (by rfl) _ (FW.out _ H2.out _ _) ?_
      rintro v w4 ⟨d, rfl, hS, dn, dl⟩
      have H3 := hid hS
      have DN := hid dn
      have DL : Hid (d.n ≤ 20) := hid (by omega)
      clear dl
      refine hK.out _ _ (fun _ => H3.out) ?_
      clear hK K hS dn
      simp only [ap, List.set]
      obtain ⟨l0, l1⟩ := H3.out.2.l.two
      have lf := H3.out.2.l.warm
      refine wpAnyG_one (i := 21) (by kernel_rfl) rfl ?_
      intro K hK
      go_simp
      refine hK.out _ _ (fun h => absurd h (by decide)) ?_
      clear hK K
      try simp only [ap, List.set]
      refine wpAnyG_done (by kernel_rfl) ?_ _
      go_wp2_with fail
      go_meet
      case rel =>
       have hL := H3.out.2.l
       refine ⟨b, d, DL.out, (H3.out.1.other (i := 0) lr hL (by decide) (by omega) (by omega) (.int .i64 b)).other (i := 1) lr (hL.setAt (i := 0) _) (by decide) (by omega) (by omega) _, ⟨(hL.setAt (i := 0) _).setAt (i := 1) _, (DN.out.keeps (keeps_set hL (by decide) _)).keeps (keeps_set (hL.setAt (i := 0) _) (by decide) _)⟩⟩
     ·have n1 : decide ((0 : Int) < (X.own.n : Int)) = false := decide_eq_false (by omega)
      have n2 : ¬ (0 : Int) < (X.own.n : Int) := by omega
      go_wp2_with fail
      go_meet
      case rel => exact ⟨_, _, by omega, T9.out, L9.out⟩
  case rest =>
  obtain ⟨b, c, cl, T8_, L8_⟩ := hcut
  clear T8 L8
  have T8 := hid T8_
  have L8 := hid L8_
  clear T8_ L8_
  obtain ⟨x0, x1c⟩ := T8.out.k.two
  obtain ⟨s0, s1, s2, s3, s4, s5, s6, s7, s8, s9⟩ := T8.out.sb.ten
  have sf := T8.out.sb.warm
  obtain ⟨l0, l1⟩ := L8.out.l.two
  have lf := L8.out.l.warm
  go_upto_block 0 with fail
  refine switch_any w0 w rb n cap a lt lo g ca q co B HS hr OK lr on S L (by omega) sL x1 id_ ti TI b c cl kd hkd wc T8 L8 _ _ _ _ _ _ _ _ _ _ _ _ _ _ _ _ _ _ _ _ _ _ _ _ _ _ _ _ _ _ _ _ _ _ _ _ _ _ _ _ _ _ _ _ _ _ _ _ _ _ _ _ _ _ _ _ _ _ _ _ _ _ _ _ _ _ _ _ _ _ _ _ _ _ _ _ _ _ _ _ _ _ _ _ _ _ _ _ _ _ _ _ _ _ _ _ _ _ _ _ _ _ _ _ _ _ _ _ _ _ _ _ _ _ _ _ _ _ _ _ _ _ _ _ _ _ _ _ _ _ _ _ _ _ _ _ _ _ _ _ _ _ _ _ _ _ _ _ _ _ _ _ _ _ _ _ _ _ _ (fun _ _ _ _ _ h => h) ?_
  intro v9 v10 v11 v12 v13 v14 v15 v16 v17 v18 v19 v20 v21 v22 v23 v24 v25 v26 v27 v28 v29 v30 v31 v32 v33 v34 v35 v36 v37 v38 v39 v40 v41 v42 v43 v44 v45 v46 v47 v48 v49 v50 v51 v52 v53 v54 v55 v56 v57 v58 v59 v60 v61 v62 v63 v64 v65 v66 v67 v68 v69 v70 v71 v72 v73 v74 v75 v76 v77 v78 v79 v80 v81 v82 v83 v84 v85 v86 v87 v88 v89 v90 v91 v92 v93 v94 v95 v96 v97 v98 v99 v100 v101 v102 v103 v104 v105 v106 v107 v108 v109 v110 v111 v112 v113 v114 v115 v116 v117 v118 v119 v120 v121 v122 v123 v124 v125 v126 v127 v128 v129 v130 v131 v132 v133 v134 v135 v136 v137 v138 v139 v140 v141 v142 v143 v144 v145 v146 v147 v148 v149 v150 v151 v152 v153 v154 v155 v156 v157 v158 v159 v160 v161 v162 v163 v164 v165 v166 wd hcut
  obtain ⟨s, T9_⟩ := hcut
  have T9 := hid T9_
  clear T9_
  clear T8 L8 s0 s1 s2 s3 s4 s5 s6 s7 s8 s9 sf l0 l1 lf x0 x1c
  go_wp2_with fail
  refine (once_any w0 rb a n cap 40 _ (by omega) T9.out.rs.r).mono ?_
  rintro e u9 ⟨b9, rfl, r9, g9⟩
  have T10 := hid (T9.out.call lr (by omega) r9 g9)
  clear r9 g9 T9
  go_upto_if 162 with fail
  go_cut [] from 9 (fun wc => ∃ s : StepV, StS w0 w wc rb a n cap lt lo g ca q co S s)
  case first =>
   cases b9 with
   | false =>
    go_wp2_with fail
    go_meet
    case rel => exact ⟨_, T10.out⟩
   | true =>
    go_wp2_with fail
    refine (rdText_any w0 rb a n cap _ T10.out.rs.r).mono ?_
    rintro e u11 ⟨tx, rfl, txl, r11, g11⟩
    have T11 := hid (T10.out.call lr (by omega) r11 g11)
    clear r11 g11 T10
    obtain ⟨s0, s1, s2, s3, s4, s5, s6, s7, s8, s9⟩ := T11.out.sb.ten
    have sf := T11.out.sb.warm
    go_wp2_with fail
    go_meet
    case rel => exact ⟨_, T11.out.put (s' := ⟨s.th, s.kind, s.id, s.to, s.cat, tx, s.b1, s.c1, s.b2, s.c2⟩) lr (by omega) (T11.out.sb.setAt (i := 5) _) T11.out.n1 T11.out.n2 txl⟩
  case rest =>
  obtain ⟨s, T12_⟩ := hcut
  have T12 := hid T12_
  clear T12_
  clear T10
  obtain ⟨s0, s1, s2, s3, s4, s5, s6, s7, s8, s9⟩ := T12.out.sb.ten
  have sf := T12.out.sb.warm
  obtain ⟨z0, z1, z2, z3, z4, z5, z6, z7, z8, z9⟩ := T12.out.z.ten
  have zf := T12.out.z.warm
  go_wp2
  have KP := hid (keeps_set10 T12.out.z (by decide) (.int .i64 s.th) (.int .i64 s.kind) (.int .i64 s.id) (.int .i64 s.to) (.int .i64 s.cat) (.string s.data) (.int .i64 s.b1) (.slice s.c1.a s.c1.n s.c1.k) (.int .i64 s.b2) (.slice s.c2.a s.c2.n s.c2.k))
  have RF := hid (((((((((((T12.out.rs.set (Z := w.heap.size + 1) lr (Nat.le_succ w.heap.size) 0 (.int .i64 s.th)).set (Z := w.heap.size + 1) lr (Nat.le_succ w.heap.size) 1 (.int .i64 s.kind)).set (Z := w.heap.size + 1) lr (Nat.le_succ w.heap.size) 2 (.int .i64 s.id)).set (Z := w.heap.size + 1) lr (Nat.le_succ w.heap.size) 3 (.int .i64 s.to)).set (Z := w.heap.size + 1) lr (Nat.le_succ w.heap.size) 4 (.int .i64 s.cat)).set (Z := w.heap.size + 1) lr (Nat.le_succ w.heap.size) 5 (.string s.data)).set (Z := w.heap.size + 1) lr (Nat.le_succ w.heap.size) 6 (.int .i64 s.b1)).set (Z := w.heap.size + 1) lr (Nat.le_succ w.heap.size) 7 (.slice s.c1.a s.c1.n s.c1.k)).set (Z := w.heap.size + 1) lr (Nat.le_succ w.heap.size) 8 (.int .i64 s.b2)).set (Z := w.heap.size + 1) lr (Nat.le_succ w.heap.size) 9 (.slice s.c2.a s.c2.n s.c2.k)))
  refine bodyPost_ret (step_results _ _ (w.heap.size + 1) (.int .i64 s.th) (.int .i64 s.kind) (.int .i64 s.id) (.int .i64 s.to) (.int .i64 s.cat) (.string s.data) (.int .i64 s.b1) (.slice s.c1.a s.c1.n s.c1.k) (.int .i64 s.b2) (.slice s.c2.a s.c2.n s.c2.k) (blk_set10 T12.out.z (.int .i64 s.th) (.int .i64 s.kind) (.int .i64 s.id) (.int .i64 s.to) (.int .i64 s.cat) (.string s.data) (.int .i64 s.b1) (.slice s.c1.a s.c1.n s.c1.k) (.int .i64 s.b2) (.slice s.c2.a s.c2.n s.c2.k)) rfl) rfl ⟨s, rfl, ?_, ?_, ?_⟩
  ·exact ⟨T12.out.n1.keeps KP.out, T12.out.n2.keeps KP.out, T12.out.ds⟩
  ·exact RF.out.r
  ·exact RF.out.g
end Go.Proofs.YthbmfbnnemgbpaaGreatDoor
