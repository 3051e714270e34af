/- The reader's step, kinds 6 to 15. -/
import Derived.Test.YthbmfbnnemgbpaaGreatDoorNG0
import Derived.Deep.CutBlock
namespace Go.Proofs.YthbmfbnnemgbpaaGreatDoor
open Go Go.RowKit Go.Deep Go.Maps Go.BigFrame Go.Shelf
set_option maxRecDepth 100000 in
set_option maxHeartbeats 16000000 in
theorem switchB (w0 w : World) (rb n cap : Nat) (a : Option Addr) (lt : List ThrV) (lo : List ObjV) (g ca q co B : Nat) (HS : Hid (KSt w B (.slice (some ⟨g, 0, none⟩) lt.length ca) (.slice (some ⟨q, 0, none⟩) lo.length co) lt lo)) (hr : rb < B) (OK : Hid (StF lt lo)) (lr : rb < w.heap.size) (on : 1 ≤ lo.length ∧ lo.length ≤ 271) (S L : Nat) (hS : w.heap.size + 1 < S) (sL : S < L) (x1 : Nat) (id_ ti : Int) (_TI : Hid (ti = -1 ∨ ∃ t : Nat, ti = t ∧ t < lt.length)) (b : Int) (c : CatL) (_cl : c.n ≤ 20) (kd : Int) (ck : kd = 6 ∨ kd = 7 ∨ kd = 8 ∨ kd = 9 ∨ kd = 10 ∨ kd = 11 ∨ kd = 12 ∨ kd = 13 ∨ kd = 14 ∨ kd = 15) (wc : World) (T8 : Hid (StS w0 w wc rb a n cap lt lo g ca q co S ⟨1 + (x1 : Int), kd, 0, 0, 0, ⟨#[]⟩, 0, zeroC, 0, zeroC⟩)) (L8 : Hid (LabB wc L b c)) (u9 u10 u11 u12 u13 u14 u15 u16 u17 u18 u19 u20 u21 u22 u23 u24 u25 u26 u27 u28 u29 u30 u31 u32 u33 u34 u35 u36 u37 u38 u39 u40 u41 u42 u43 u44 u45 u46 u47 u48 u49 u50 u51 u52 u53 u54 u55 u56 u57 u58 u59 u60 u61 u62 u63 u64 u65 u66 u67 u68 u69 u70 u71 u72 u73 u74 u75 u76 u77 u78 u80 u81 u82 u83 u84 u85 u86 u87 u88 u89 u90 u91 u92 u93 u94 u95 u96 u97 u98 u99 u100 u101 u102 u103 u104 u105 u106 u107 u108 u109 u110 u111 u112 u113 u114 u115 u116 u117 u118 u119 u120 u121 u122 u123 u124 u125 u126 u127 u128 u129 u130 u131 u132 u133 u134 u135 u136 u137 u138 u139 u140 u141 u142 u143 u144 u145 u146 u147 u148 u149 u150 u151 u152 u153 u154 u155 u156 u157 u158 u159 u160 u161 u162 u163 u164 u165 u166 : Value) (K : Act → World → Prop) (Q' : Exit → Act → World → Prop) (_hQ : ∀ c a d v w, Q' (.panic c) (Act.put a (some d) v) w → Q' (.panic c) a w)
 (hK : ∀ (v9 v10 v11 v12 v13 v14 v15 v16 v17 v18 v19 v20 v21 v22 v23 v24 v25 v26 v27 v28 v29 v30 v31 v32 v33 v34 v35 v36 v37 v38 v39 v40 v41 v42 v43 v44 v45 v46 v47 v48 v49 v50 v51 v52 v53 v54 v55 v56 v57 v58 v59 v60 v61 v62 v63 v64 v65 v66 v67 v68 v69 v70 v71 v72 v73 v74 v75 v76 v77 v78 v79 v80 v81 v82 v83 v84 v85 v86 v87 v88 v89 v90 v91 v92 v93 v94 v95 v96 v97 v98 v99 v100 v101 v102 v103 v104 v105 v106 v107 v108 v109 v110 v111 v112 v113 v114 v115 v116 v117 v118 v119 v120 v121 v122 v123 v124 v125 v126 v127 v128 v129 v130 v131 v132 v133 v134 v135 v136 v137 v138 v139 v140 v141 v142 v143 v144 v145 v146 v147 v148 v149 v150 v151 v152 v153 v154 v155 v156 v157 v158 v159 v160 v161 v162 v163 v164 v165 v166 : Value) (wd : World), (∃ s : StepV, StS w0 w wd rb a n cap lt lo g ca q co S s) → K ⟨List.toArray (.pointer (some ⟨rb, 0, none⟩) :: .agg #[.slice (some ⟨g, 0, none⟩) lt.length ca, .slice (some ⟨q, 0, none⟩) lo.length co] :: undef :: .pointer (some ⟨w.heap.size, 0, none⟩) :: .pointer (some ⟨w.heap.size + 1, 0, none⟩) :: .pointer (some ⟨S, 0, none⟩) :: .int .i64 id_ :: .pointer (some ⟨L, 0, none⟩) :: .int .i64 ti :: v9 :: v10 :: v11 :: v12 :: v13 :: v14 :: v15 :: v16 :: v17 :: v18 :: v19 :: v20 :: v21 :: v22 :: v23 :: v24 :: v25 :: v26 :: v27 :: v28 :: v29 :: v30 :: v31 :: v32 :: v33 :: v34 :: v35 :: v36 :: v37 :: v38 :: v39 :: v40 :: v41 :: v42 :: v43 :: v44 :: v45 :: v46 :: v47 :: v48 :: v49 :: v50 :: v51 :: v52 :: v53 :: v54 :: v55 :: v56 :: v57 :: v58 :: v59 :: v60 :: v61 :: v62 :: v63 :: v64 :: v65 :: v66 :: v67 :: v68 :: v69 :: v70 :: v71 :: v72 :: v73 :: v74 :: v75 :: v76 :: v77 :: v78 :: v79 :: v80 :: v81 :: v82 :: v83 :: v84 :: v85 :: v86 :: v87 :: v88 :: v89 :: v90 :: v91 :: v92 :: v93 :: v94 :: v95 :: v96 :: v97 :: v98 :: v99 :: v100 :: v101 :: v102 :: v103 :: v104 :: v105 :: v106 :: v107 :: v108 :: v109 :: v110 :: v111 :: v112 :: v113 :: v114 :: v115 :: v116 :: v117 :: v118 :: v119 :: v120 :: v121 :: v122 :: v123 :: v124 :: v125 :: v126 :: v127 :: v128 :: v129 :: v130 :: v131 :: v132 :: v133 :: v134 :: v135 :: v136 :: v137 :: v138 :: v139 :: v140 :: v141 :: v142 :: v143 :: v144 :: v145 :: v146 :: v147 :: v148 :: v149 :: v150 :: v151 :: v152 :: v153 :: v154 :: v155 :: v156 :: v157 :: v158 :: v159 :: v160 :: v161 :: v162 :: v163 :: v164 :: v165 :: v166 :: []), []⟩ wd) : (stepSw).wp Tryz.prog (Exit.then K Q') ⟨List.toArray (.pointer (some ⟨rb, 0, none⟩) :: .agg #[.slice (some ⟨g, 0, none⟩) lt.length ca, .slice (some ⟨q, 0, none⟩) lo.length co] :: undef :: .pointer (some ⟨w.heap.size, 0, none⟩) :: .pointer (some ⟨w.heap.size + 1, 0, none⟩) :: .pointer (some ⟨S, 0, none⟩) :: .int .i64 id_ :: .pointer (some ⟨L, 0, none⟩) :: .int .i64 ti :: u9 :: u10 :: u11 :: u12 :: u13 :: u14 :: u15 :: u16 :: u17 :: u18 :: u19 :: u20 :: u21 :: u22 :: u23 :: u24 :: u25 :: u26 :: u27 :: u28 :: u29 :: u30 :: u31 :: u32 :: u33 :: u34 :: u35 :: u36 :: u37 :: u38 :: u39 :: u40 :: u41 :: u42 :: u43 :: u44 :: u45 :: u46 :: u47 :: u48 :: u49 :: u50 :: u51 :: u52 :: u53 :: u54 :: u55 :: u56 :: u57 :: u58 :: u59 :: u60 :: u61 :: u62 :: u63 :: u64 :: u65 :: u66 :: u67 :: u68 :: u69 :: u70 :: u71 :: u72 :: u73 :: u74 :: u75 :: u76 :: u77 :: u78 :: .int .i64 kd :: u80 :: u81 :: u82 :: u83 :: u84 :: u85 :: u86 :: u87 :: u88 :: u89 :: u90 :: u91 :: u92 :: u93 :: u94 :: u95 :: u96 :: u97 :: u98 :: u99 :: u100 :: u101 :: u102 :: u103 :: u104 :: u105 :: u106 :: u107 :: u108 :: u109 :: u110 :: u111 :: u112 :: u113 :: u114 :: u115 :: u116 :: u117 :: u118 :: u119 :: u120 :: u121 :: u122 :: u123 :: u124 :: u125 :: u126 :: u127 :: u128 :: u129 :: u130 :: u131 :: u132 :: u133 :: u134 :: u135 :: u136 :: u137 :: u138 :: u139 :: u140 :: u141 :: u142 :: u143 :: u144 :: u145 :: u146 :: u147 :: u148 :: u149 :: u150 :: u151 :: u152 :: u153 :: u154 :: u155 :: u156 :: u157 :: u158 :: u159 :: u160 :: u161 :: u162 :: u163 :: u164 :: u165 :: u166 :: []), []⟩ wc := by
 unfold stepSw
 obtain ⟨x0, x1c⟩ := T8.out.k.two
 obtain ⟨s0, s1, s2, s3, s4, s5, s6, s7, s8, s9⟩ := T8.out.sb.ten
 have sf := T8.out.sb.warm
 obtain ⟨l0, l1⟩ := L8.out.l.two
 have lf := L8.out.l.warm
 go_cut [] from 9 (fun wc => ∃ s : StepV, StS w0 w wc rb a n cap lt lo g ca q co S s)
 case first =>
  clear hK
  rcases ck with rfl | rfl | rfl | rfl | rfl | rfl | rfl | rfl | rfl | rfl
  ·skip
   go_wp2_with fail
   have T9 := hid (T8.out.put (s' := ⟨1 + (x1 : Int), 6, id_, 0, 0, ⟨#[]⟩, 0, zeroC, 0, zeroC⟩) lr (by omega) (T8.out.sb.setAt (i := 2) _) zeroC_new zeroC_new (Nat.zero_le _))
   clear s0 s1 s2 s3 s4 s5 s6 s7 s8 s9 sf l0 l1 lf x0 x1c
   generalize wc.setCell ⟨S, 2, none⟩ (.int .i64 id_) = W9 at *
   refine (rdText_any w0 rb a n cap _ T9.out.rs.r).mono ?_
   rintro e u9 ⟨tx, rfl, txl, r9, g9⟩
   have T10 := hid (T9.out.call lr (by omega) r9 g9)
   clear r9 g9 T9
   obtain ⟨s0, s1, s2, s3, s4, s5, s6, s7, s8, s9⟩ := T10.out.sb.ten
   have sf := T10.out.sb.warm
   go_wp2_with fail
   go_meet
   case rel => exact ⟨_, T10.out.put (s' := ⟨1 + (x1 : Int), 6, id_, 0, 0, tx, 0, zeroC, 0, zeroC⟩) lr (by omega) (T10.out.sb.setAt (i := 5) _) zeroC_new zeroC_new txl⟩
  ·skip
   go_wp2_with fail
   go_meet
   case rel => exact ⟨_, T8.out.put (s' := ⟨1 + (x1 : Int), 7, id_, 0, 0, ⟨#[]⟩, 0, zeroC, 0, zeroC⟩) lr (by omega) (T8.out.sb.setAt (i := 2) _) zeroC_new zeroC_new (Nat.zero_le _)⟩
  ·skip
   have T9 := hid (T8.out.put (s' := ⟨1 + (x1 : Int), 8, id_, 0, 0, ⟨#[]⟩, 0, zeroC, 0, zeroC⟩) lr (by omega) (T8.out.sb.setAt (i := 2) _) zeroC_new zeroC_new (Nat.zero_le _))
   obtain ⟨k0, k1⟩ := T9.out.k.two
   go_wp2_with fail
   clear s0 s1 s2 s3 s4 s5 s6 s7 s8 s9 sf l0 l1 lf x0 x1c k0 k1
   generalize wc.setCell ⟨S, 2, none⟩ (.int .i64 id_) = W9 at *
   refine (rdId_any w0 rb a n cap _ T9.out.rs.r lt lo g ca q co B (HS.out.grownR T9.out.rs.g hr) hr on.1 (by omega) (OK.out.data) (OK.out.id)).mono ?_
   rintro e u9 ⟨jd, rfl, _, r9, g9⟩
   have T10 := hid (T9.out.call lr (by omega) r9 g9)
   clear r9 g9 T9
   obtain ⟨s0, s1, s2, s3, s4, s5, s6, s7, s8, s9⟩ := T10.out.sb.ten
   have sf := T10.out.sb.warm
   go_wp2_with fail
   go_meet
   case rel => exact ⟨_, T10.out.put (s' := ⟨1 + (x1 : Int), 8, id_, jd, 0, ⟨#[]⟩, 0, zeroC, 0, zeroC⟩) lr (by omega) (T10.out.sb.setAt (i := 3) _) zeroC_new zeroC_new (Nat.zero_le _)⟩
  ·skip
   go_wp2_with fail
   have T9 := hid (T8.out.put (s' := ⟨1 + (x1 : Int), 9, id_, 0, 0, ⟨#[]⟩, 0, zeroC, 0, zeroC⟩) lr (by omega) (T8.out.sb.setAt (i := 2) _) zeroC_new zeroC_new (Nat.zero_le _))
   clear s0 s1 s2 s3 s4 s5 s6 s7 s8 s9 sf l0 l1 lf x0 x1c
   generalize wc.setCell ⟨S, 2, none⟩ (.int .i64 id_) = W9 at *
   refine (rdText_any w0 rb a n cap _ T9.out.rs.r).mono ?_
   rintro e u9 ⟨tx, rfl, txl, r9, g9⟩
   have T10 := hid (T9.out.call lr (by omega) r9 g9)
   clear r9 g9 T9
   obtain ⟨s0, s1, s2, s3, s4, s5, s6, s7, s8, s9⟩ := T10.out.sb.ten
   have sf := T10.out.sb.warm
   go_wp2_with fail
   go_meet
   case rel => exact ⟨_, T10.out.put (s' := ⟨1 + (x1 : Int), 9, id_, 0, 0, tx, 0, zeroC, 0, zeroC⟩) lr (by omega) (T10.out.sb.setAt (i := 5) _) zeroC_new zeroC_new txl⟩
  ·skip
   go_wp2_with fail
   go_meet
   case rel => exact ⟨_, T8.out.put (s' := ⟨1 + (x1 : Int), 10, id_, 0, 0, ⟨#[]⟩, 0, zeroC, 0, zeroC⟩) lr (by omega) (T8.out.sb.setAt (i := 2) _) zeroC_new zeroC_new (Nat.zero_le _)⟩
  ·skip
   go_wp2_with fail
   go_meet
   case rel => exact ⟨_, T8.out.put (s' := ⟨1 + (x1 : Int), 11, id_, 0, 0, ⟨#[]⟩, 0, zeroC, 0, zeroC⟩) lr (by omega) (T8.out.sb.setAt (i := 2) _) zeroC_new zeroC_new (Nat.zero_le _)⟩
  ·skip
   go_wp2_with fail
   have P1 := T8.out.put (s' := ⟨1 + (x1 : Int), 12, 0, 0, 0, ⟨#[]⟩, b, zeroC, 0, zeroC⟩) lr (by omega) (T8.out.sb.setAt (i := 6) _) zeroC_new zeroC_new (Nat.zero_le _)
   have P2 := P1.put (s' := ⟨1 + (x1 : Int), 12, 0, 0, 0, ⟨#[]⟩, b, c, 0, zeroC⟩) lr (by omega) (P1.sb.setAt (i := 7) _) (L8.out.set (i := 6) T8.out.sb (by omega) (by decide) (.int .i64 b)).cn zeroC_new (Nat.zero_le _)
   go_meet
   case rel => exact ⟨_, P2⟩
  ·skip
   go_wp2_with fail
   go_meet
   case rel => exact ⟨_, T8.out.put (s' := ⟨1 + (x1 : Int), 13, id_, 0, 0, ⟨#[]⟩, 0, zeroC, 0, zeroC⟩) lr (by omega) (T8.out.sb.setAt (i := 2) _) zeroC_new zeroC_new (Nat.zero_le _)⟩
  ·skip
   go_wp2_with fail
   have B0 : Hid (∀ o, StS w0 w (wc.alloc o) rb a n cap lt lo g ca q co S ⟨1 + (x1 : Int), 14, 0, 0, 0, ⟨#[]⟩, 0, zeroC, 0, zeroC⟩) := hid (fun o => T8.out.alloc o)
   refine (rdBelow_any w0 rb a n cap 3 _ (by omega) (B0.out _).rs.r).mono ?_
   rintro e u9 ⟨y, rfl, _, hy, r9, g9⟩
   have y6 := hy (by omega)
   have T10 := hid ((B0.out _).call lr (by omega) r9 g9)
   have s3 : rb < wc.heap.size := by have := T8.out.rs.g.size; omega
   have Y := hid ((Blk.new wc _).grown g9 (by simp; omega))
   clear r9 g9 hy B0 s0 s1 s2 s3 s4 s5 s6 s7 s8 s9 sf l0 l1 lf x0 x1c
   have yc := Y.out.c0
   have c0 := yc 0 rfl
   have c1 := yc 1 rfl
   have c2 := yc 2 rfl
   clear yc
   obtain ⟨s0, s1, s2, s3, s4, s5, s6, s7, s8, s9⟩ := T10.out.sb.ten
   have sf := T10.out.sb.warm
   have cs : y = 0 ∨ y = 1 ∨ y = 2 := by omega
   rcases cs with rfl | rfl | rfl
   ·go_wp2_with fail
    go_meet
    case rel => exact ⟨_, T10.out.put (s' := ⟨1 + (x1 : Int), 14, 0, 0, 1001, ⟨#[]⟩, 0, zeroC, 0, zeroC⟩) lr (by omega) (T10.out.sb.setAt (i := 4) _) zeroC_new zeroC_new (Nat.zero_le _)⟩
   ·go_wp2_with fail
    go_meet
    case rel => exact ⟨_, T10.out.put (s' := ⟨1 + (x1 : Int), 14, 0, 0, 2001, ⟨#[]⟩, 0, zeroC, 0, zeroC⟩) lr (by omega) (T10.out.sb.setAt (i := 4) _) zeroC_new zeroC_new (Nat.zero_le _)⟩
   ·go_wp2_with fail
    go_meet
    case rel => exact ⟨_, T10.out.put (s' := ⟨1 + (x1 : Int), 14, 0, 0, 3001, ⟨#[]⟩, 0, zeroC, 0, zeroC⟩) lr (by omega) (T10.out.sb.setAt (i := 4) _) zeroC_new zeroC_new (Nat.zero_le _)⟩
  ·skip
   go_wp2_with fail
   go_meet
   case rel => exact ⟨_, T8.out.put (s' := ⟨1 + (x1 : Int), 15, id_, 0, 0, ⟨#[]⟩, 0, zeroC, 0, zeroC⟩) lr (by omega) (T8.out.sb.setAt (i := 2) _) zeroC_new zeroC_new (Nat.zero_le _)⟩
 case rest => exact hK _ _ _ _ _ _ _ _ _ _ _ _ _ _ _ _ _ _ _ _ _ _ _ _ _ _ _ _ _ _ _ _ _ _ _ _ _ _ _ _ _ _ _ _ _ _ _ _ _ _ _ _ _ _ _ _ _ _ _ _ _ _ _ _ _ _ _ _ _ _ _ _ _ _ _ _ _ _ _ _ _ _ _ _ _ _ _ _ _ _ _ _ _ _ _ _ _ _ _ _ _ _ _ _ _ _ _ _ _ _ _ _ _ _ _ _ _ _ _ _ _ _ _ _ _ _ _ _ _ _ _ _ _ _ _ _ _ _ _ _ _ _ _ _ _ _ _ _ _ _ _ _ _ _ _ _ _ _ wc hcut
end Go.Proofs.YthbmfbnnemgbpaaGreatDoor
