/- The reader's step, kinds 1 to 5. -/
import Derived.Test.YthbmfbnnemgbpaaGreatDoorZ0
import Derived.Test.YthbmfbnnemgbpaaGreatDoorNG0
import Derived.Deep.CutBlock
namespace Go.Proofs.YthbmfbnnemgbpaaGreatDoor
open Go Go.RowKit Go.Deep Go.Maps Go.BigFrame Go.Shelf
set_option maxRecDepth 100000 in
set_option maxHeartbeats 16000000 in
theorem switchA (w0 w : World) (rb n cap : Nat) (a : Option Addr) (lt : List ThrV) (lo : List ObjV) (g ca q co B : Nat) (HS : Hid (KSt w B (.slice (some ⟨g, 0, none⟩) lt.length ca) (.slice (some ⟨q, 0, none⟩) lo.length co) lt lo)) (hr : rb < B) (OK : Hid (StF lt lo)) (lr : rb < w.heap.size) (_on : 1 ≤ lo.length ∧ lo.length ≤ 271) (S L : Nat) (hS : w.heap.size + 1 < S) (sL : S < L) (x1 : Nat) (id_ ti : Int) (TI : Hid (ti = -1 ∨ ∃ t : Nat, ti = t ∧ t < lt.length)) (b : Int) (c : CatL) (_cl : c.n ≤ 20) (kd : Int) (ck : kd = 1 ∨ kd = 2 ∨ kd = 3 ∨ kd = 4 ∨ kd = 5) (wc : World) (T8 : Hid (StS w0 w wc rb a n cap lt lo g ca q co S ⟨1 + (x1 : Int), kd, 0, 0, 0, ⟨#[]⟩, 0, zeroC, 0, zeroC⟩)) (L8 : Hid (LabB wc L b c)) (u9 u10 u11 u12 u13 u14 u15 u16 u17 u18 u19 u20 u21 u22 u23 u24 u25 u26 u27 u28 u29 u30 u31 u32 u33 u34 u35 u36 u37 u38 u39 u40 u41 u42 u43 u44 u45 u46 u47 u48 u49 u50 u51 u52 u53 u54 u55 u56 u57 u58 u59 u60 u61 u62 u63 u64 u65 u66 u67 u68 u69 u70 u71 u72 u73 u74 u75 u76 u77 u78 u80 u81 u82 u83 u84 u85 u86 u87 u88 u89 u90 u91 u92 u93 u94 u95 u96 u97 u98 u99 u100 u101 u102 u103 u104 u105 u106 u107 u108 u109 u110 u111 u112 u113 u114 u115 u116 u117 u118 u119 u120 u121 u122 u123 u124 u125 u126 u127 u128 u129 u130 u131 u132 u133 u134 u135 u136 u137 u138 u139 u140 u141 u142 u143 u144 u145 u146 u147 u148 u149 u150 u151 u152 u153 u154 u155 u156 u157 u158 u159 u160 u161 u162 u163 u164 u165 u166 : Value) (K : Act → World → Prop) (Q' : Exit → Act → World → Prop) (hQ : ∀ c a d v w, Q' (.panic c) (Act.put a (some d) v) w → Q' (.panic c) a w)
 (hK : ∀ (v9 v10 v11 v12 v13 v14 v15 v16 v17 v18 v19 v20 v21 v22 v23 v24 v25 v26 v27 v28 v29 v30 v31 v32 v33 v34 v35 v36 v37 v38 v39 v40 v41 v42 v43 v44 v45 v46 v47 v48 v49 v50 v51 v52 v53 v54 v55 v56 v57 v58 v59 v60 v61 v62 v63 v64 v65 v66 v67 v68 v69 v70 v71 v72 v73 v74 v75 v76 v77 v78 v79 v80 v81 v82 v83 v84 v85 v86 v87 v88 v89 v90 v91 v92 v93 v94 v95 v96 v97 v98 v99 v100 v101 v102 v103 v104 v105 v106 v107 v108 v109 v110 v111 v112 v113 v114 v115 v116 v117 v118 v119 v120 v121 v122 v123 v124 v125 v126 v127 v128 v129 v130 v131 v132 v133 v134 v135 v136 v137 v138 v139 v140 v141 v142 v143 v144 v145 v146 v147 v148 v149 v150 v151 v152 v153 v154 v155 v156 v157 v158 v159 v160 v161 v162 v163 v164 v165 v166 : Value) (wd : World), (∃ s : StepV, StS w0 w wd rb a n cap lt lo g ca q co S s) → K ⟨List.toArray (.pointer (some ⟨rb, 0, none⟩) :: .agg #[.slice (some ⟨g, 0, none⟩) lt.length ca, .slice (some ⟨q, 0, none⟩) lo.length co] :: undef :: .pointer (some ⟨w.heap.size, 0, none⟩) :: .pointer (some ⟨w.heap.size + 1, 0, none⟩) :: .pointer (some ⟨S, 0, none⟩) :: .int .i64 id_ :: .pointer (some ⟨L, 0, none⟩) :: .int .i64 ti :: v9 :: v10 :: v11 :: v12 :: v13 :: v14 :: v15 :: v16 :: v17 :: v18 :: v19 :: v20 :: v21 :: v22 :: v23 :: v24 :: v25 :: v26 :: v27 :: v28 :: v29 :: v30 :: v31 :: v32 :: v33 :: v34 :: v35 :: v36 :: v37 :: v38 :: v39 :: v40 :: v41 :: v42 :: v43 :: v44 :: v45 :: v46 :: v47 :: v48 :: v49 :: v50 :: v51 :: v52 :: v53 :: v54 :: v55 :: v56 :: v57 :: v58 :: v59 :: v60 :: v61 :: v62 :: v63 :: v64 :: v65 :: v66 :: v67 :: v68 :: v69 :: v70 :: v71 :: v72 :: v73 :: v74 :: v75 :: v76 :: v77 :: v78 :: v79 :: v80 :: v81 :: v82 :: v83 :: v84 :: v85 :: v86 :: v87 :: v88 :: v89 :: v90 :: v91 :: v92 :: v93 :: v94 :: v95 :: v96 :: v97 :: v98 :: v99 :: v100 :: v101 :: v102 :: v103 :: v104 :: v105 :: v106 :: v107 :: v108 :: v109 :: v110 :: v111 :: v112 :: v113 :: v114 :: v115 :: v116 :: v117 :: v118 :: v119 :: v120 :: v121 :: v122 :: v123 :: v124 :: v125 :: v126 :: v127 :: v128 :: v129 :: v130 :: v131 :: v132 :: v133 :: v134 :: v135 :: v136 :: v137 :: v138 :: v139 :: v140 :: v141 :: v142 :: v143 :: v144 :: v145 :: v146 :: v147 :: v148 :: v149 :: v150 :: v151 :: v152 :: v153 :: v154 :: v155 :: v156 :: v157 :: v158 :: v159 :: v160 :: v161 :: v162 :: v163 :: v164 :: v165 :: v166 :: []), []⟩ wd) : (stepSw).wp Tryz.prog (Exit.then K Q') ⟨List.toArray (.pointer (some ⟨rb, 0, none⟩) :: .agg #[.slice (some ⟨g, 0, none⟩) lt.length ca, .slice (some ⟨q, 0, none⟩) lo.length co] :: undef :: .pointer (some ⟨w.heap.size, 0, none⟩) :: .pointer (some ⟨w.heap.size + 1, 0, none⟩) :: .pointer (some ⟨S, 0, none⟩) :: .int .i64 id_ :: .pointer (some ⟨L, 0, none⟩) :: .int .i64 ti :: u9 :: u10 :: u11 :: u12 :: u13 :: u14 :: u15 :: u16 :: u17 :: u18 :: u19 :: u20 :: u21 :: u22 :: u23 :: u24 :: u25 :: u26 :: u27 :: u28 :: u29 :: u30 :: u31 :: u32 :: u33 :: u34 :: u35 :: u36 :: u37 :: u38 :: u39 :: u40 :: u41 :: u42 :: u43 :: u44 :: u45 :: u46 :: u47 :: u48 :: u49 :: u50 :: u51 :: u52 :: u53 :: u54 :: u55 :: u56 :: u57 :: u58 :: u59 :: u60 :: u61 :: u62 :: u63 :: u64 :: u65 :: u66 :: u67 :: u68 :: u69 :: u70 :: u71 :: u72 :: u73 :: u74 :: u75 :: u76 :: u77 :: u78 :: .int .i64 kd :: u80 :: u81 :: u82 :: u83 :: u84 :: u85 :: u86 :: u87 :: u88 :: u89 :: u90 :: u91 :: u92 :: u93 :: u94 :: u95 :: u96 :: u97 :: u98 :: u99 :: u100 :: u101 :: u102 :: u103 :: u104 :: u105 :: u106 :: u107 :: u108 :: u109 :: u110 :: u111 :: u112 :: u113 :: u114 :: u115 :: u116 :: u117 :: u118 :: u119 :: u120 :: u121 :: u122 :: u123 :: u124 :: u125 :: u126 :: u127 :: u128 :: u129 :: u130 :: u131 :: u132 :: u133 :: u134 :: u135 :: u136 :: u137 :: u138 :: u139 :: u140 :: u141 :: u142 :: u143 :: u144 :: u145 :: u146 :: u147 :: u148 :: u149 :: u150 :: u151 :: u152 :: u153 :: u154 :: u155 :: u156 :: u157 :: u158 :: u159 :: u160 :: u161 :: u162 :: u163 :: u164 :: u165 :: u166 :: []), []⟩ wc := by
 unfold stepSw
 obtain ⟨x0, x1c⟩ := T8.out.k.two
 obtain ⟨s0, s1, s2, s3, s4, s5, s6, s7, s8, s9⟩ := T8.out.sb.ten
 have sf := T8.out.sb.warm
 obtain ⟨l0, l1⟩ := L8.out.l.two
 have lf := L8.out.l.warm
 go_cut [] from 9 (fun wc => ∃ s : StepV, StS w0 w wc rb a n cap lt lo g ca q co S s)
 case first =>
  clear hK
  rcases ck with rfl | rfl | rfl | rfl | rfl
  ·skip
   go_wp2_with fail
   go_meet
   case rel => exact ⟨_, T8.out⟩
  ·skip
   go_wp2_with fail
   have T9 := hid (T8.out.put (s' := ⟨1 + (x1 : Int), 2, id_, 0, 0, ⟨#[]⟩, 0, zeroC, 0, zeroC⟩) lr (by omega) (T8.out.sb.setAt (i := 2) _) zeroC_new zeroC_new (Nat.zero_le _))
   have L9 := hid (L8.out.set (i := 2) T8.out.sb (by omega) (by decide) (.int .i64 id_))
   clear s0 s1 s2 s3 s4 s5 s6 s7 s8 s9 sf l0 l1 lf x0 x1c
   generalize wc.setCell ⟨S, 2, none⟩ (.int .i64 id_) = W9 at *
   refine (once_any w0 rb a n cap 2 _ (by omega) T9.out.rs.r).mono ?_
   rintro e u9 ⟨t9, rfl, r9, g9⟩
   have T10 := hid (T9.out.call lr (by omega) r9 g9)
   have L10 := hid (L9.out.call (by omega) T9.out.rs.r g9)
   clear r9 g9 T9 L9
   obtain ⟨s0, s1, s2, s3, s4, s5, s6, s7, s8, s9⟩ := T10.out.sb.ten
   have sf := T10.out.sb.warm
   obtain ⟨l0, l1⟩ := L10.out.l.two
   have lf := L10.out.l.warm
   cases t9 with
   | false =>
    go_wp2_with fail
    have P1 := T10.out.put (s' := ⟨1 + (x1 : Int), 2, id_, 0, 0, ⟨#[]⟩, b, zeroC, 0, zeroC⟩) lr (by omega) (T10.out.sb.setAt (i := 6) _) zeroC_new zeroC_new (Nat.zero_le _)
    have P2 := P1.put (s' := ⟨1 + (x1 : Int), 2, id_, 0, 0, ⟨#[]⟩, b, c, 0, zeroC⟩) lr (by omega) (P1.sb.setAt (i := 7) _) (L10.out.set (i := 6) T10.out.sb (by omega) (by decide) (.int .i64 b)).cn zeroC_new (Nat.zero_le _)
    go_meet
    case rel => exact ⟨_, P2⟩
   | true =>
    have T11 := hid (T10.out.put (s' := ⟨1 + (x1 : Int), 2, 1, 0, 0, ⟨#[]⟩, 0, zeroC, 0, zeroC⟩) lr (by omega) (T10.out.sb.setAt (i := 2) _) zeroC_new zeroC_new (Nat.zero_le _))
    have L11 := hid (L10.out.set (i := 2) T10.out.sb (by omega) (by decide) (.int .i64 1))
    obtain ⟨s0, s1, s2, s3, s4, s5, s6, s7, s8, s9⟩ := T11.out.sb.ten
    have af := T11.out.sb.warm
    obtain ⟨m0, m1⟩ := L11.out.l.two
    have mf := L11.out.l.warm
    go_wp2_with fail
    have P1 := T11.out.put (s' := ⟨1 + (x1 : Int), 2, 1, 0, 0, ⟨#[]⟩, b, zeroC, 0, zeroC⟩) lr (by omega) (T11.out.sb.setAt (i := 6) _) zeroC_new zeroC_new (Nat.zero_le _)
    have P2 := P1.put (s' := ⟨1 + (x1 : Int), 2, 1, 0, 0, ⟨#[]⟩, b, c, 0, zeroC⟩) lr (by omega) (P1.sb.setAt (i := 7) _) (L11.out.set (i := 6) T11.out.sb (by omega) (by decide) (.int .i64 b)).cn zeroC_new (Nat.zero_le _)
    go_meet
    case rel => exact ⟨_, P2⟩
  ·skip
   go_wp2_with fail
   have T9 := hid (T8.out.put (s' := ⟨1 + (x1 : Int), 3, id_, 0, 0, ⟨#[]⟩, 0, zeroC, 0, zeroC⟩) lr (by omega) (T8.out.sb.setAt (i := 2) _) zeroC_new zeroC_new (Nat.zero_le _))
   have L9 := hid (L8.out.set (i := 2) T8.out.sb (by omega) (by decide) (.int .i64 id_))
   clear s0 s1 s2 s3 s4 s5 s6 s7 s8 s9 sf l0 l1 lf x0 x1c
   generalize wc.setCell ⟨S, 2, none⟩ (.int .i64 id_) = W9 at *
   refine (once_any w0 rb a n cap 2 _ (by omega) T9.out.rs.r).mono ?_
   rintro e u9 ⟨t9, rfl, r9, g9⟩
   have T10 := hid (T9.out.call lr (by omega) r9 g9)
   have L10 := hid (L9.out.call (by omega) T9.out.rs.r g9)
   clear r9 g9 T9 L9
   obtain ⟨s0, s1, s2, s3, s4, s5, s6, s7, s8, s9⟩ := T10.out.sb.ten
   have sf := T10.out.sb.warm
   obtain ⟨l0, l1⟩ := L10.out.l.two
   have lf := L10.out.l.warm
   cases t9 with
   | false =>
    go_wp2_with fail
    have P1 := T10.out.put (s' := ⟨1 + (x1 : Int), 3, id_, 0, 0, ⟨#[]⟩, b, zeroC, 0, zeroC⟩) lr (by omega) (T10.out.sb.setAt (i := 6) _) zeroC_new zeroC_new (Nat.zero_le _)
    have P2 := P1.put (s' := ⟨1 + (x1 : Int), 3, id_, 0, 0, ⟨#[]⟩, b, c, 0, zeroC⟩) lr (by omega) (P1.sb.setAt (i := 7) _) (L10.out.set (i := 6) T10.out.sb (by omega) (by decide) (.int .i64 b)).cn zeroC_new (Nat.zero_le _)
    go_meet
    case rel => exact ⟨_, P2⟩
   | true =>
    have T11 := hid (T10.out.put (s' := ⟨1 + (x1 : Int), 3, 1, 0, 0, ⟨#[]⟩, 0, zeroC, 0, zeroC⟩) lr (by omega) (T10.out.sb.setAt (i := 2) _) zeroC_new zeroC_new (Nat.zero_le _))
    have L11 := hid (L10.out.set (i := 2) T10.out.sb (by omega) (by decide) (.int .i64 1))
    obtain ⟨s0, s1, s2, s3, s4, s5, s6, s7, s8, s9⟩ := T11.out.sb.ten
    have af := T11.out.sb.warm
    obtain ⟨m0, m1⟩ := L11.out.l.two
    have mf := L11.out.l.warm
    go_wp2_with fail
    have P1 := T11.out.put (s' := ⟨1 + (x1 : Int), 3, 1, 0, 0, ⟨#[]⟩, b, zeroC, 0, zeroC⟩) lr (by omega) (T11.out.sb.setAt (i := 6) _) zeroC_new zeroC_new (Nat.zero_le _)
    have P2 := P1.put (s' := ⟨1 + (x1 : Int), 3, 1, 0, 0, ⟨#[]⟩, b, c, 0, zeroC⟩) lr (by omega) (P1.sb.setAt (i := 7) _) (L11.out.set (i := 6) T11.out.sb (by omega) (by decide) (.int .i64 b)).cn zeroC_new (Nat.zero_le _)
    go_meet
    case rel => exact ⟨_, P2⟩
  ·skip
   go_wp2_with fail
   have T9 := hid (T8.out.put (s' := ⟨1 + (x1 : Int), 4, id_, 0, 0, ⟨#[]⟩, 0, zeroC, 0, zeroC⟩) lr (by omega) (T8.out.sb.setAt (i := 2) _) zeroC_new zeroC_new (Nat.zero_le _))
   have L9 := hid (L8.out.set (i := 2) T8.out.sb (by omega) (by decide) (.int .i64 id_))
   clear s0 s1 s2 s3 s4 s5 s6 s7 s8 s9 sf l0 l1 lf x0 x1c
   generalize wc.setCell ⟨S, 2, none⟩ (.int .i64 id_) = W9 at *
   refine (once_any w0 rb a n cap 2 _ (by omega) T9.out.rs.r).mono ?_
   rintro e u9 ⟨t9, rfl, r9, g9⟩
   have T10 := hid (T9.out.call lr (by omega) r9 g9)
   have L10 := hid (L9.out.call (by omega) T9.out.rs.r g9)
   clear r9 g9 T9 L9
   obtain ⟨s0, s1, s2, s3, s4, s5, s6, s7, s8, s9⟩ := T10.out.sb.ten
   have sf := T10.out.sb.warm
   obtain ⟨l0, l1⟩ := L10.out.l.two
   have lf := L10.out.l.warm
   cases t9 with
   | false =>
    go_wp2_with fail
    have P1 := T10.out.put (s' := ⟨1 + (x1 : Int), 4, id_, 0, 0, ⟨#[]⟩, b, zeroC, 0, zeroC⟩) lr (by omega) (T10.out.sb.setAt (i := 6) _) zeroC_new zeroC_new (Nat.zero_le _)
    have P2 := P1.put (s' := ⟨1 + (x1 : Int), 4, id_, 0, 0, ⟨#[]⟩, b, c, 0, zeroC⟩) lr (by omega) (P1.sb.setAt (i := 7) _) (L10.out.set (i := 6) T10.out.sb (by omega) (by decide) (.int .i64 b)).cn zeroC_new (Nat.zero_le _)
    go_meet
    case rel => exact ⟨_, P2⟩
   | true =>
    have T11 := hid (T10.out.put (s' := ⟨1 + (x1 : Int), 4, 1, 0, 0, ⟨#[]⟩, 0, zeroC, 0, zeroC⟩) lr (by omega) (T10.out.sb.setAt (i := 2) _) zeroC_new zeroC_new (Nat.zero_le _))
    have L11 := hid (L10.out.set (i := 2) T10.out.sb (by omega) (by decide) (.int .i64 1))
    obtain ⟨s0, s1, s2, s3, s4, s5, s6, s7, s8, s9⟩ := T11.out.sb.ten
    have af := T11.out.sb.warm
    obtain ⟨m0, m1⟩ := L11.out.l.two
    have mf := L11.out.l.warm
    go_wp2_with fail
    have P1 := T11.out.put (s' := ⟨1 + (x1 : Int), 4, 1, 0, 0, ⟨#[]⟩, b, zeroC, 0, zeroC⟩) lr (by omega) (T11.out.sb.setAt (i := 6) _) zeroC_new zeroC_new (Nat.zero_le _)
    have P2 := P1.put (s' := ⟨1 + (x1 : Int), 4, 1, 0, 0, ⟨#[]⟩, b, c, 0, zeroC⟩) lr (by omega) (P1.sb.setAt (i := 7) _) (L11.out.set (i := 6) T11.out.sb (by omega) (by decide) (.int .i64 b)).cn zeroC_new (Nat.zero_le _)
    go_meet
    case rel => exact ⟨_, P2⟩
  ·skip
   go_wp2_with fail
   have P1 := T8.out.put (s' := ⟨1 + (x1 : Int), 5, 1, 0, 0, ⟨#[]⟩, 0, zeroC, 0, zeroC⟩) lr (by omega) (T8.out.sb.setAt (i := 2) _) zeroC_new zeroC_new (Nat.zero_le _)
   have P2 := P1.put (s' := ⟨1 + (x1 : Int), 5, 1, 0, 0, ⟨#[]⟩, 1, zeroC, 0, zeroC⟩) lr (by omega) (P1.sb.setAt (i := 6) (.int .i64 1)) zeroC_new zeroC_new (Nat.zero_le _)
   have T9 := hid (P2.put (s' := ⟨1 + (x1 : Int), 5, 1, 0, 0, ⟨#[]⟩, 1, zeroC, 0, zeroC⟩) lr (by omega) (P2.sb.setAt (i := 7) (.slice none 0 0)) zeroC_new zeroC_new (Nat.zero_le _))
   have L9 := hid (((L8.out.set (i := 2) T8.out.sb (by omega) (by decide) (.int .i64 1)).set (i := 6) P1.sb (by omega) (by decide) (.int .i64 1)).set (i := 7) P2.sb (by omega) (by decide) (.slice none 0 0))
   clear P1 P2 s0 s1 s2 s3 s4 s5 s6 s7 s8 s9 sf l0 l1 lf x0 x1c
   generalize (((wc.setCell ⟨S, 2, none⟩ (.int .i64 1)).setCell ⟨S, 6, none⟩ (.int .i64 1)).setCell ⟨S, 7, none⟩ (.slice none 0 0)) = W9 at *
   refine (rdLabel_any w0 rb a n cap _ T9.out.rs.r).mono ?_
   rintro e u9 ⟨b2, l2, va2, vc2, rfl, ll2, ol2, r9, g9⟩
   have T10 := hid (T9.out.call lr (by omega) r9 g9)
   have L10 := hid (L9.out.call (by omega) T9.out.rs.r g9)
   have N10 := hid ((ownCats_new ol2 (by omega)).low (Nat.zero_le _))
   clear r9 g9 ol2 T9 L9
   obtain ⟨s0, s1, s2, s3, s4, s5, s6, s7, s8, s9⟩ := T10.out.sb.ten
   have sf := T10.out.sb.warm
   have P1 := T10.out.put (s' := ⟨1 + (x1 : Int), 5, 1, 0, 0, ⟨#[]⟩, 1, zeroC, b2, zeroC⟩) lr (by omega) (T10.out.sb.setAt (i := 8) _) zeroC_new zeroC_new (Nat.zero_le _)
   have P2 := P1.put (s' := ⟨1 + (x1 : Int), 5, 1, 0, 0, ⟨#[]⟩, 1, zeroC, b2, ⟨va2, l2.length, vc2, fstAt l2, sndAt l2⟩⟩) lr (by omega) (P1.sb.setAt (i := 9) (.slice va2 l2.length vc2)) zeroC_new (N10.out.keeps (keeps_set T10.out.sb (by decide) (.int .i64 b2))) (Nat.zero_le _)
   have T11 := hid P2
   have L11 := hid ((L10.out.set (i := 8) T10.out.sb (by omega) (by decide) (.int .i64 b2)).set (i := 9) P1.sb (by omega) (by decide) (.slice va2 l2.length vc2))
   clear P1 P2
   obtain ⟨k0, k1⟩ := T11.out.k.two
   rcases TI.out with e | ⟨t, e, ht⟩
   ·subst e
    go_wp2_with fail
    go_meet
    case rel => exact ⟨_, T11.out⟩
   ·subst e
    have j1 : ¬ (t : Int) < 0 := by omega
    obtain ⟨X, eX⟩ : ∃ X, X = lt[t] := ⟨_, rfl⟩
    have XF := OK.out.thr X (by rw [eX]; exact List.getElem_mem ht)
    have x10 := own_n XF.1
    have EX := hid eX
    have i0 : (0 : Int) ≤ (t : Int) := by omega
    have i1 : (t : Int) < (lt.length : Int) := by omega
    have TC : Hid (∀ W, w.grownBy W (some rb) → W.cell? ⟨g, t * 7, none⟩ = some (.int .i64 X.id) ∧ W.cell? ⟨g, t * 7 + 1, none⟩ = some (.int .i64 X.b1) ∧ W.cell? ⟨g, t * 7 + 2, none⟩ = some (.slice X.c1.a X.c1.n X.c1.k) ∧ W.cell? ⟨g, t * 7 + 3, none⟩ = some (.int .i64 X.b2) ∧ W.cell? ⟨g, t * 7 + 4, none⟩ = some (.slice X.c2.a X.c2.n X.c2.k) ∧ W.cell? ⟨g, t * 7 + 5, none⟩ = some (.slice X.own.a X.own.n X.own.k) ∧ W.cell? ⟨g, t * 7 + 6, none⟩ = some (.int .i64 X.made)) := hid (fun W hW => by
     have C := ((HS.out.grownR hW hr).cell7 ht).1
     rw [← EX.out] at C
     exact ⟨C.c0, C.c1, C.c2, C.c3, C.c4, C.c5, C.c6⟩)
    have XN : Hid (∀ W, w.grownBy W (some rb) → X.new B W) := hid (fun W hW => by rw [EX.out]; exact (HS.out.grownR hW hr).tn _ (List.getElem_mem ht))
    clear eX
    obtain ⟨c0, c1, c2, c3, c4, c5, c6⟩ := TC.out _ T11.out.rs.g
    by_cases n0 : 0 < X.own.n
    ·have n1 : decide ((0 : Int) < (X.own.n : Int)) = true := decide_eq_true (by omega)
     have n2 : (0 : Int) < (X.own.n : Int) := by omega
     obtain ⟨ob, hob⟩ : ∃ ob, X.own.a = some ⟨ob, 0, none⟩ := by
      obtain ⟨o', _, _, e, _⟩ := (XN.out w (grown_refl w rb)).2.2.2 (by omega)
      exact ⟨o', e⟩
     have EOA := hid hob
     have OWC : Hid (∀ W, w.grownBy W (some rb) → ∀ y, y < X.own.n → W.cell? ⟨ob, y, none⟩ = some (.int .i64 (X.own.h y))) := hid (fun W hW y hy => by
      obtain ⟨b', off, e, _, hc⟩ := (XN.out W hW).2.2.1.2 (by omega)
      rw [EOA.out] at e
      cases e
      have := hc y hy
      rw [Nat.zero_add] at this
      exact this)
     clear hob
     go_wp2_with fail
     clear c0 c1 c2 c3 c4 c5 c6 k0 k1 s0 s1 s2 s3 s4 s5 s6 s7 s8 s9 sf
     generalize ((u9.setCell ⟨S, 8, none⟩ (.int .i64 b2)).setCell ⟨S, 9, none⟩ (.slice va2 l2.length vc2)) = W11 at *
     have DR : Hid (StS w0 w W11.drew rb a n cap lt lo g ca q co S ⟨1 + (x1 : Int), 5, 1, 0, 0, ⟨#[]⟩, 1, zeroC, b2, ⟨va2, l2.length, vc2, fstAt l2, sndAt l2⟩⟩ ∧ LabB W11.drew L b c) := hid ⟨T11.out.below (below_drew (Below.refl _ W11)), L11.out.below (below_drew (Below.refl _ W11))⟩
     have F1 : Hid (∀ W, StS w0 w W rb a n cap lt lo g ca q co S ⟨1 + (x1 : Int), 5, 1, 0, 0, ⟨#[]⟩, 1, zeroC, b2, ⟨va2, l2.length, vc2, fstAt l2, sndAt l2⟩⟩ ∧ LabB W L b c → Calls Tryz.prog 34 #[.pointer (some ⟨rb, 0, none⟩), .int .i64 (X.own.n : Int)] W fun e w' => ∃ v, e = .returned v ∧ (∃ u : Nat, v = .int .i64 (u : Int) ∧ u < X.own.n ∧ (StS w0 w w' rb a n cap lt lo g ca q co S ⟨1 + (x1 : Int), 5, 1, 0, 0, ⟨#[]⟩, 1, zeroC, b2, ⟨va2, l2.length, vc2, fstAt l2, sndAt l2⟩⟩ ∧ LabB w' L b c))) := hid (fun W hW => (rdBelow_any w0 rb a n cap X.own.n W (by omega) hW.1.rs.r).mono fun e w' ⟨x, e1, _, hx, r, g'⟩ => ⟨_, e1, x, rfl, hx (by omega), hW.1.call lr (by omega) r g', hW.2.call (by omega) hW.1.rs.r g'⟩)
     have E1 : Hid (∀ args w, (callFunc 34 args).run Tryz.prog w = .ok (.enter 34 args) w) := hid (enters_of Tryz.func34 (by kernel_rfl) rfl)
     refine wp_region_G 18 (fun W => StS w0 w W rb a n cap lt lo g ca q co S ⟨1 + (x1 : Int), 5, 1, 0, 0, ⟨#[]⟩, 1, zeroC, b2, ⟨va2, l2.length, vc2, fstAt l2, sndAt l2⟩⟩ ∧ LabB W L b c) (by kernel_rfl) ?_
     refine tq 0 115 (.pointer (some ⟨w.heap.size, 0, none⟩)) DR.out ?_ (hQ := (fun c a w h => hQ c a _ _ w h))
     simp only [ap, List.set]
     refine tq 1 116 (.slice (some ⟨g, 0, none⟩) lt.length ca) DR.out ?_ (hy := fun W h => by obtain ⟨z0, z1⟩ := h.1.k.two; go_simp) (hQ := (fun c a w h => hQ c a _ _ w h))
     simp only [ap, List.set]
     refine tq 2 117 (.int .i64 t) DR.out ?_ (hQ := (fun c a w h => hQ c a _ _ w h))
     simp only [ap, List.set]
     refine tq 3 118 (.pointer (some ⟨g, t * 7, none⟩)) DR.out ?_ (hQ := (fun c a w h => hQ c a _ _ w h))
     simp only [ap, List.set]
     refine tq 4 119 (.pointer (some ⟨g, t * 7 + 5, none⟩)) DR.out ?_ (hQ := (fun c a w h => hQ c a _ _ w h))
     simp only [ap, List.set]
     refine tq 5 120 (.slice X.own.a X.own.n X.own.k) DR.out ?_ (hy := fun W h => by obtain ⟨z0, z1, z2, z3, z4, z5, z6⟩ := TC.out W h.1.rs.g; go_simp) (hQ := (fun c a w h => hQ c a _ _ w h))
     simp only [ap, List.set]
     refine tq 6 121 (.pointer (some ⟨rb, 0, none⟩)) DR.out ?_ (hQ := (fun c a w h => hQ c a _ _ w h))
     simp only [ap, List.set]
     refine tq 7 122 (.pointer (some ⟨w.heap.size, 0, none⟩)) DR.out ?_ (hQ := (fun c a w h => hQ c a _ _ w h))
     simp only [ap, List.set]
     refine tq 8 123 (.slice (some ⟨g, 0, none⟩) lt.length ca) DR.out ?_ (hy := fun W h => by obtain ⟨z0, z1⟩ := h.1.k.two; go_simp) (hQ := (fun c a w h => hQ c a _ _ w h))
     simp only [ap, List.set]
     refine tq 9 124 (.int .i64 t) DR.out ?_ (hQ := (fun c a w h => hQ c a _ _ w h))
     simp only [ap, List.set]
     refine tq 10 125 (.pointer (some ⟨g, t * 7, none⟩)) DR.out ?_ (hQ := (fun c a w h => hQ c a _ _ w h))
     simp only [ap, List.set]
     refine tq 11 126 (.pointer (some ⟨g, t * 7 + 5, none⟩)) DR.out ?_ (hQ := (fun c a w h => hQ c a _ _ w h))
     simp only [ap, List.set]
     refine tq 12 127 (.slice X.own.a X.own.n X.own.k) DR.out ?_ (hy := fun W h => by obtain ⟨z0, z1, z2, z3, z4, z5, z6⟩ := TC.out W h.1.rs.g; go_simp) (hQ := (fun c a w h => hQ c a _ _ w h))
     simp only [ap, List.set]
     refine tq 13 128 (.int .i64 (X.own.n : Int)) DR.out ?_ (hQ := (fun c a w h => hQ c a _ _ w h))
     simp only [ap, List.set]
     generalize W11.drew = WD at *
     refine wpAnyG_one (i := 14) (by kernel_rfl) rfl ?_
     intro K hK
     refine step_call2g (by rfl) 34 _ _ _ (by rfl) E1.out _ _ (by rfl) (by rfl) (some 129) (by rfl) _ (F1.out _ DR.out) ?_
     rintro v w2 ⟨y, rfl, yl, hS⟩
     have H1 := hid hS
     refine hK.out _ _ (fun _ => H1.out) ?_
     clear hK K hS
     simp only [ap, List.set]
     have y1 : (y : Int) < (X.own.n : Int) := by omega
     have y2 : (0 : Int) ≤ (y : Int) := by omega
     have YC : Hid (∀ W, StS w0 w W rb a n cap lt lo g ca q co S ⟨1 + (x1 : Int), 5, 1, 0, 0, ⟨#[]⟩, 1, zeroC, b2, ⟨va2, l2.length, vc2, fstAt l2, sndAt l2⟩⟩ ∧ LabB W L b c → W.cell? ⟨ob, y, none⟩ = some (.int .i64 (X.own.h y))) := hid (fun W hW => OWC.out W hW.1.rs.g y yl)
     refine tq 15 130 (.pointer (some ⟨ob, y, none⟩)) H1.out ?_ (hy := fun W h => by rw [EOA.out]; go_simp) (hQ := (fun c a w h => hQ c a _ _ w h))
     simp only [ap, List.set]
     refine tq 16 131 (.int .i64 (X.own.h y)) H1.out ?_ (hy := fun W h => by have z := YC.out W h; go_simp) (hQ := (fun c a w h => hQ c a _ _ w h))
     simp only [ap, List.set]
     refine wpAnyG_one (i := 17) (by kernel_rfl) rfl ?_
     intro K hK
     go_simp
     refine hK.out _ _ (fun _ => H1.out) ?_
     clear hK K
     try simp only [ap, List.set]
     obtain ⟨s0, s1, s2, s3, s4, s5, s6, s7, s8, s9⟩ := H1.out.1.sb.ten
     have sf := H1.out.1.sb.warm
     refine wpAnyG_one (i := 18) (by kernel_rfl) rfl ?_
     intro K hK
     go_simp
     refine hK.out _ _ (fun h => absurd h (by decide)) ?_
     clear hK K
     try simp only [ap, List.set]
     refine wpAnyG_done (by kernel_rfl) ?_ _
     go_wp2_with fail
     go_meet
     case rel => exact ⟨_, H1.out.1.put (s' := ⟨1 + (x1 : Int), 5, 1, 0, X.own.h y, ⟨#[]⟩, 1, zeroC, b2, ⟨va2, l2.length, vc2, fstAt l2, sndAt l2⟩⟩) lr (by omega) (H1.out.1.sb.setAt (i := 4) _) zeroC_new H1.out.1.n2 (Nat.zero_le _)⟩
    ·have n1 : decide ((0 : Int) < (X.own.n : Int)) = false := decide_eq_false (by omega)
     have n2 : ¬ (0 : Int) < (X.own.n : Int) := by omega
     go_wp2_with fail
     go_meet
     case rel => exact ⟨_, T11.out⟩
 case rest => exact hK _ _ _ _ _ _ _ _ _ _ _ _ _ _ _ _ _ _ _ _ _ _ _ _ _ _ _ _ _ _ _ _ _ _ _ _ _ _ _ _ _ _ _ _ _ _ _ _ _ _ _ _ _ _ _ _ _ _ _ _ _ _ _ _ _ _ _ _ _ _ _ _ _ _ _ _ _ _ _ _ _ _ _ _ _ _ _ _ _ _ _ _ _ _ _ _ _ _ _ _ _ _ _ _ _ _ _ _ _ _ _ _ _ _ _ _ _ _ _ _ _ _ _ _ _ _ _ _ _ _ _ _ _ _ _ _ _ _ _ _ _ _ _ _ _ _ _ _ _ _ _ _ _ _ _ _ _ _ wc hcut
end Go.Proofs.YthbmfbnnemgbpaaGreatDoor
