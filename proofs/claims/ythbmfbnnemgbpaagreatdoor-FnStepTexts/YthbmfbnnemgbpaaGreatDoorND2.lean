/- l4Drop, by the model. -/
import Derived.Test.YthbmfbnnemgbpaaGreatDoorZ0
import Derived.Test.YthbmfbnnemgbpaaGreatDoorZ24
import Derived.Test.YthbmfbnnemgbpaaGreatDoorZ26
import Derived.Test.YthbmfbnnemgbpaaGreatDoorZ13
namespace Go.Proofs.YthbmfbnnemgbpaaGreatDoor
open Go Go.RowKit Go.Deep Go.Maps Go.BigFrame Go.Shelf
theorem OwnI.form {w : World} {B : Nat} {v : Value} {l : List Int} (h : OwnI w B v l) : ∃ a c, v = .slice a l.length c := by
 rcases h.2 with ⟨hv, hl⟩ | ⟨g, cap, cur, hv, _⟩
 ·exact ⟨none, 0, by rw [hv, hl]⟩
 ·exact ⟨_, _, hv⟩
def goneL (lo : List ObjV) (u : Nat) : List Int := sortL ((preI (fun i => (atOwnOb lo i).id) (fun i => (atOwnOb lo i).up) lo.length lo.length u).map (fun i => (atOwnOb lo i).id))
theorem under_v {w : World} {B ca co : Nat} {ta oa : Option Addr} {lt : List ThrV} {lo : List ObjV} (h : KSt w B (.slice ta lt.length ca) (.slice oa lo.length co) lt lo) (h1 : lt.length ≤ 1048576) (h2 : lo.length ≤ 1048576) (h3 : ∀ x ∈ lo, x.data.size ≤ maxLen) (ok : kerOk (kOf ta ca oa co lt lo) = true) {x : Int} {u : Nat} (hu : atL lo x = some u) :
 Calls Tryz.prog 95 #[.agg #[.slice ta lt.length ca, .slice oa lo.length co], .int .i64 x] w fun e w' => ∃ a c, e = .returned (.slice a (goneL lo u).length c) ∧ OwnI w' w.heap.size (.slice a (goneL lo u).length c) (goneL lo u) ∧ Below w.heap.size w w' := by
 obtain ⟨u1, u2⟩ := findI_some hu
 have hh := l3Under_any (kOf ta ca oa co lt lo) u w (h.at h1 h2 h3) (kerOk_parts ok).2.1 u1 (ker_noCyc ok u1)
 have e : ((kOf ta ca oa co lt lo).O u).id = x := u2
 rw [e] at hh
 refine hh.mono ?_
 rintro e w' ⟨v, rfl, h1, h2⟩
 obtain ⟨a, c, rfl⟩ := h1.form
 exact ⟨a, c, rfl, h1, h2⟩
theorem goneL_len {ta : Option Addr} {ca : Nat} {oa : Option Addr} {co : Nat} {lt : List ThrV} {lo : List ObjV} (ok : kerOk (kOf ta ca oa co lt lo) = true) {x : Int} {u : Nat} (hu : atL lo x = some u) : (goneL lo u).length ≤ 271 := by
 have h := underL_len (kOf ta ca oa co lt lo) x
 unfold underL at h
 rw [if_pos ok] at h
 have e : findI (fun i => ((kOf ta ca oa co lt lo).O i).id) (kOf ta ca oa co lt lo).on x = some u := hu
 rw [e] at h
 exact h
theorem box_v {ta : Option Addr} {ca : Nat} {oa : Option Addr} {co : Nat} {lt : List ThrV} {lo : List ObjV} (ok : kerOk (kOf ta ca oa co lt lo) = true) {u : Nat} (u0 : 0 < u) (hu : u < lo.length) : ∃ p, atL lo (lo[u]).up = some p := by
 have k := kerOk_iff.1 ok
 obtain ⟨p, p1, p2, _⟩ := k.box u u0 hu
 have e := findI_eq k.rise p1
 have e1 : atOwnOb lo u = lo[u] := by simp [atOwnOb, hu]
 have e2 : ((kOf ta ca oa co lt lo).O u).up = lo[u].up := by rw [← e1]; rfl
 refine ⟨p, ?_⟩
 rw [← e2, ← p2]
 exact e
def stayL (G : List Int) (lo : List ObjV) (j : Nat) : List ObjV := (lo.take j).filter (fun o => !hasB G.length (nthI G) o.id)
theorem stayL_skip {G : List Int} {lo : List ObjV} {j : Nat} (hj : j < lo.length) (h : hasB G.length (nthI G) lo[j].id = true) : stayL G lo (j + 1) = stayL G lo j := by
 unfold stayL
 rw [List.take_succ_eq_append_getElem hj, List.filter_append]
 simp [h]
theorem stayL_more {G : List Int} {lo : List ObjV} {j : Nat} (hj : j < lo.length) (h : hasB G.length (nthI G) lo[j].id = false) : stayL G lo (j + 1) = stayL G lo j ++ [lo[j]] := by
 unfold stayL
 rw [List.take_succ_eq_append_getElem hj, List.filter_append]
 simp [h]
theorem stayL_len (G : List Int) (lo : List ObjV) (j : Nat) : (stayL G lo j).length ≤ j := by
 unfold stayL
 refine Nat.le_trans (List.length_filter_le _ _) ?_
 simp
 omega
def dropB (X : ThrV) (lo : List ObjV) (x : Int) : Bool := match atL lo x with
 | some u => decide (0 < u) && (match atL lo (atOwnOb lo u).up with
  | some p => changesB X (atOwnOb lo p).b1 (atOwnOb lo p).c1
  | none => false)
 | none => false
def DropP (X : ThrV) (s : StepV) (lo : List ObjV) (c : Int) (lo' : List ObjV) : Prop :=
 (c = 4 ∧ dropB X lo s.id = false ∧ lo' = lo) ∨ (c = 0 ∧ dropB X lo s.id = true ∧ ∃ u, atL lo s.id = some u ∧ 0 < u ∧ lo' = stayL (goneL lo u) lo lo.length)
set_option maxRecDepth 100000 in
set_option maxHeartbeats 16000000 in
theorem l4Drop_any (lt : List ThrV) (lo : List ObjV) (g ca q co B : Nat) (w : World) (st : KSt w B (.slice (some ⟨g, 0, none⟩) lt.length ca) (.slice (some ⟨q, 0, none⟩) lo.length co) lt lo) (hB : B ≤ w.heap.size) (t : Nat) (ht : t < lt.length) (X : ThrV) (hX : X = lt[t]) (xs : X.small) (s : StepV)
 (ra : RiseL X.c1) (hl1 : lt.length ≤ 1048576) (hl2 : lo.length ≤ 1048000) (hd : ∀ x ∈ lo, x.data.size ≤ maxLen) (hO : ∀ x ∈ lo, x.c1.n ≤ 1048576 ∧ RiseL x.c1) (ok : kerOk (kOf (some ⟨g, 0, none⟩) ca (some ⟨q, 0, none⟩) co lt lo) = true) :
 Calls Tryz.prog 78 #[.agg #[.slice (some ⟨g, 0, none⟩) lt.length ca, .slice (some ⟨q, 0, none⟩) lo.length co], .int .i64 t, .agg #[.int .i64 s.th, .int .i64 s.kind, .int .i64 s.id, .int .i64 s.to, .int .i64 s.cat, .string s.data, .int .i64 s.b1, .slice s.c1.a s.c1.n s.c1.k, .int .i64 s.b2, .slice s.c2.a s.c2.n s.c2.k]] w fun e w' => ∃ (lo' : List ObjV) (ob : Option Addr) (cb : Nat) (c : Int), e = .returned (.tuple #[.agg #[.slice (some ⟨g, 0, none⟩) lt.length ca, .slice ob lo'.length cb], .int .i64 c, .string ⟨#[]⟩]) ∧ KSt w' B (.slice (some ⟨g, 0, none⟩) lt.length ca) (.slice ob lo'.length cb) lt lo' ∧ Below B w w' ∧ DropP X s lo c lo' := by
 obtain ⟨th, kd, id_, to_, cat, dat, sb1, sc1, sb2, sc2⟩ := s
 simp only
 have XA : Hid (X.at w) := hid (by rw [hX]; exact (st.tn _ (List.getElem_mem ht)).at)
 have OK := hid ok
 have b0 : Below w.heap.size w (((w.alloc (.cells #[.slice (some ⟨g, 0, none⟩) lt.length ca, .slice (some ⟨q, 0, none⟩) lo.length co] 42)).alloc (.cells #[.int .i64 th, .int .i64 kd, .int .i64 id_, .int .i64 to_, .int .i64 cat, .string dat, .int .i64 sb1, .slice sc1.a sc1.n sc1.k, .int .i64 sb2, .slice sc2.a sc2.n sc2.k] 28)).alloc (.cells #[.slice none 0 0, .slice none 0 0] 42)) := (((Below.refl _ w).alloc (Nat.le_refl _) _).alloc (by simp) _).alloc (by simp; omega) _
 have A0 : Blk (((w.alloc (.cells #[.slice (some ⟨g, 0, none⟩) lt.length ca, .slice (some ⟨q, 0, none⟩) lo.length co] 42)).alloc (.cells #[.int .i64 th, .int .i64 kd, .int .i64 id_, .int .i64 to_, .int .i64 cat, .string dat, .int .i64 sb1, .slice sc1.a sc1.n sc1.k, .int .i64 sb2, .slice sc2.a sc2.n sc2.k] 28)).alloc (.cells #[.slice none 0 0, .slice none 0 0] 42)) w.heap.size (.cells #[.slice (some ⟨g, 0, none⟩) lt.length ca, .slice (some ⟨q, 0, none⟩) lo.length co] 42) := ((Blk.new w _).alloc _).alloc _
 have P0 : Blk (((w.alloc (.cells #[.slice (some ⟨g, 0, none⟩) lt.length ca, .slice (some ⟨q, 0, none⟩) lo.length co] 42)).alloc (.cells #[.int .i64 th, .int .i64 kd, .int .i64 id_, .int .i64 to_, .int .i64 cat, .string dat, .int .i64 sb1, .slice sc1.a sc1.n sc1.k, .int .i64 sb2, .slice sc2.a sc2.n sc2.k] 28)).alloc (.cells #[.slice none 0 0, .slice none 0 0] 42)) (w.heap.size + 1) (.cells #[.int .i64 th, .int .i64 kd, .int .i64 id_, .int .i64 to_, .int .i64 cat, .string dat, .int .i64 sb1, .slice sc1.a sc1.n sc1.k, .int .i64 sb2, .slice sc2.a sc2.n sc2.k] 28) := by have := (Blk.new (w.alloc (.cells #[.slice (some ⟨g, 0, none⟩) lt.length ca, .slice (some ⟨q, 0, none⟩) lo.length co] 42)) (.cells #[.int .i64 th, .int .i64 kd, .int .i64 id_, .int .i64 to_, .int .i64 cat, .string dat, .int .i64 sb1, .slice sc1.a sc1.n sc1.k, .int .i64 sb2, .slice sc2.a sc2.n sc2.k] 28)).alloc (.cells #[.slice none 0 0, .slice none 0 0] 42); simpa using this
 have R0 : Blk (((w.alloc (.cells #[.slice (some ⟨g, 0, none⟩) lt.length ca, .slice (some ⟨q, 0, none⟩) lo.length co] 42)).alloc (.cells #[.int .i64 th, .int .i64 kd, .int .i64 id_, .int .i64 to_, .int .i64 cat, .string dat, .int .i64 sb1, .slice sc1.a sc1.n sc1.k, .int .i64 sb2, .slice sc2.a sc2.n sc2.k] 28)).alloc (.cells #[.slice none 0 0, .slice none 0 0] 42)) (w.heap.size + 1 + 1) (.cells #[.slice none 0 0, .slice none 0 0] 42) := by have := Blk.new ((w.alloc (.cells #[.slice (some ⟨g, 0, none⟩) lt.length ca, .slice (some ⟨q, 0, none⟩) lo.length co] 42)).alloc (.cells #[.int .i64 th, .int .i64 kd, .int .i64 id_, .int .i64 to_, .int .i64 cat, .string dat, .int .i64 sb1, .slice sc1.a sc1.n sc1.k, .int .i64 sb2, .slice sc2.a sc2.n sc2.k] 28)) (.cells #[.slice none 0 0, .slice none 0 0] 42); simpa using this
 have HS := hid (st.below b0)
 have HB := hid b0
 have HA := hid A0
 have HP := hid P0
 have HR := hid R0
 have EX := hid hX
 have i0 : (0 : Int) ≤ (t : Int) := by omega
 have i1 : (t : Int) < (lt.length : Int) := by omega
 clear b0 A0 P0 R0 hX st ok
 go_enter Tryz.func78, Tryz.ntmps78
 obtain ⟨x0, x1⟩ := HA.out.two
 obtain ⟨s0, s1, s2, s3, s4, s5, s6, s7, s8, s9⟩ := HP.out.ten
 go_wp2_with fail
 have BX : Hid (∀ W, Below (((w.alloc (.cells #[.slice (some ⟨g, 0, none⟩) lt.length ca, .slice (some ⟨q, 0, none⟩) lo.length co] 42)).alloc (.cells #[.int .i64 th, .int .i64 kd, .int .i64 id_, .int .i64 to_, .int .i64 cat, .string dat, .int .i64 sb1, .slice sc1.a sc1.n sc1.k, .int .i64 sb2, .slice sc2.a sc2.n sc2.k] 28)).alloc (.cells #[.slice none 0 0, .slice none 0 0] 42)).heap.size (((w.alloc (.cells #[.slice (some ⟨g, 0, none⟩) lt.length ca, .slice (some ⟨q, 0, none⟩) lo.length co] 42)).alloc (.cells #[.int .i64 th, .int .i64 kd, .int .i64 id_, .int .i64 to_, .int .i64 cat, .string dat, .int .i64 sb1, .slice sc1.a sc1.n sc1.k, .int .i64 sb2, .slice sc2.a sc2.n sc2.k] 28)).alloc (.cells #[.slice none 0 0, .slice none 0 0] 42)) W → Blk W w.heap.size (.cells #[.slice (some ⟨g, 0, none⟩) lt.length ca, .slice (some ⟨q, 0, none⟩) lo.length co] 42) ∧ Blk W (w.heap.size + 1) (.cells #[.int .i64 th, .int .i64 kd, .int .i64 id_, .int .i64 to_, .int .i64 cat, .string dat, .int .i64 sb1, .slice sc1.a sc1.n sc1.k, .int .i64 sb2, .slice sc2.a sc2.n sc2.k] 28) ∧ Blk W (w.heap.size + 1 + 1) (.cells #[.slice none 0 0, .slice none 0 0] 42) ∧ KSt W B (.slice (some ⟨g, 0, none⟩) lt.length ca) (.slice (some ⟨q, 0, none⟩) lo.length co) lt lo) := hid (fun W hW => ⟨HA.out.below hW, HP.out.below hW, HR.out.below hW, HS.out.below hW⟩)
 have LW : Hid (∀ W, Below (((w.alloc (.cells #[.slice (some ⟨g, 0, none⟩) lt.length ca, .slice (some ⟨q, 0, none⟩) lo.length co] 42)).alloc (.cells #[.int .i64 th, .int .i64 kd, .int .i64 id_, .int .i64 to_, .int .i64 cat, .string dat, .int .i64 sb1, .slice sc1.a sc1.n sc1.k, .int .i64 sb2, .slice sc2.a sc2.n sc2.k] 28)).alloc (.cells #[.slice none 0 0, .slice none 0 0] 42)).heap.size (((w.alloc (.cells #[.slice (some ⟨g, 0, none⟩) lt.length ca, .slice (some ⟨q, 0, none⟩) lo.length co] 42)).alloc (.cells #[.int .i64 th, .int .i64 kd, .int .i64 id_, .int .i64 to_, .int .i64 cat, .string dat, .int .i64 sb1, .slice sc1.a sc1.n sc1.k, .int .i64 sb2, .slice sc2.a sc2.n sc2.k] 28)).alloc (.cells #[.slice none 0 0, .slice none 0 0] 42)) W → Below w.heap.size w W) := hid (fun W hW => then_ HB.out hW)
 have LB : Hid (∀ W, Below (((w.alloc (.cells #[.slice (some ⟨g, 0, none⟩) lt.length ca, .slice (some ⟨q, 0, none⟩) lo.length co] 42)).alloc (.cells #[.int .i64 th, .int .i64 kd, .int .i64 id_, .int .i64 to_, .int .i64 cat, .string dat, .int .i64 sb1, .slice sc1.a sc1.n sc1.k, .int .i64 sb2, .slice sc2.a sc2.n sc2.k] 28)).alloc (.cells #[.slice none 0 0, .slice none 0 0] 42)).heap.size (((w.alloc (.cells #[.slice (some ⟨g, 0, none⟩) lt.length ca, .slice (some ⟨q, 0, none⟩) lo.length co] 42)).alloc (.cells #[.int .i64 th, .int .i64 kd, .int .i64 id_, .int .i64 to_, .int .i64 cat, .string dat, .int .i64 sb1, .slice sc1.a sc1.n sc1.k, .int .i64 sb2, .slice sc2.a sc2.n sc2.k] 28)).alloc (.cells #[.slice none 0 0, .slice none 0 0] 42)) W → Below B w W) := hid (fun W hW => (then_ HB.out hW).mono hB)
 have V0 := hid (Below.refl (((w.alloc (.cells #[.slice (some ⟨g, 0, none⟩) lt.length ca, .slice (some ⟨q, 0, none⟩) lo.length co] 42)).alloc (.cells #[.int .i64 th, .int .i64 kd, .int .i64 id_, .int .i64 to_, .int .i64 cat, .string dat, .int .i64 sb1, .slice sc1.a sc1.n sc1.k, .int .i64 sb2, .slice sc2.a sc2.n sc2.k] 28)).alloc (.cells #[.slice none 0 0, .slice none 0 0] 42)).heap.size (((w.alloc (.cells #[.slice (some ⟨g, 0, none⟩) lt.length ca, .slice (some ⟨q, 0, none⟩) lo.length co] 42)).alloc (.cells #[.int .i64 th, .int .i64 kd, .int .i64 id_, .int .i64 to_, .int .i64 cat, .string dat, .int .i64 sb1, .slice sc1.a sc1.n sc1.k, .int .i64 sb2, .slice sc2.a sc2.n sc2.k] 28)).alloc (.cells #[.slice none 0 0, .slice none 0 0] 42)))
 clear x0 x1 s0 s1 s2 s3 s4 s5 s6 s7 s8 s9 HA HP HR HS
 generalize (((w.alloc (.cells #[.slice (some ⟨g, 0, none⟩) lt.length ca, .slice (some ⟨q, 0, none⟩) lo.length co] 42)).alloc (.cells #[.int .i64 th, .int .i64 kd, .int .i64 id_, .int .i64 to_, .int .i64 cat, .string dat, .int .i64 sb1, .slice sc1.a sc1.n sc1.k, .int .i64 sb2, .slice sc2.a sc2.n sc2.k] 28)).alloc (.cells #[.slice none 0 0, .slice none 0 0] 42)) = V at *
 refine (find_v (BX.out _ V0.out).2.2.2 hl1 (by omega) hd id_).mono ?_
 rintro e w1 ⟨rfl, hb1⟩
 have V1 := hid (then_ V0.out hb1)
 clear hb1
 have D0 := hid (below_drew V1.out)
 have MB : Hid (dropB X lo id_ = match atL lo id_ with | some u => decide (0 < u) && (match atL lo (atOwnOb lo u).up with | some p => changesB X (atOwnOb lo p).b1 (atOwnOb lo p).c1 | none => false) | none => false) := hid rfl
 cases hu : atL lo id_ with
 | none =>
  rw [hu] at MB
  simp only [idxI] at MB ⊢
  have j0 : decide (((-1 : Int)) < 1) = true := rfl
  go_wp2_with fail
  refine wp_region_G 24 (fun W => Below V.heap.size V W) (by kernel_rfl) ?_
  refine tq 0 17 (.int .i64 (-1)) D0.out ?_
  simp only [ap, List.set]
  refine tq 1 18 (.bool true) D0.out ?_
  simp only [ap, List.set]
  refine tq 2 19 (.bool true) D0.out ?_
  simp only [ap, List.set]
  refine sks 20 [(3, 20), (4, 21), (5, 22), (6, 23), (7, 24), (8, 25), (9, 26), (10, 27), (11, 28), (12, 29), (13, 30), (14, 31), (15, 32), (16, 33), (17, 34), (18, 35), (19, 36), (20, 37), (21, 38), (22, 39)] rfl (by kernel_rfl) D0.out ?_
  simp only [putsU, ap, List.set]
  refine tq 23 40 (.bool true) D0.out ?_
  simp only [ap, List.set]
  refine wpAnyG_done (by kernel_rfl) ?_ _
  have VL := hid (D0.out)
  clear D0
  generalize w1.drew = wd at *
  obtain ⟨x0, x1⟩ := (BX.out _ VL.out).1.two
  obtain ⟨s0, s1, s2, s3, s4, s5, s6, s7, s8, s9⟩ := (BX.out _ VL.out).2.1.ten
  obtain ⟨r0, r1⟩ := (BX.out _ VL.out).2.2.1.two
  have rf := (BX.out _ VL.out).2.2.1.warm
  go_wp2
  have RB := hid (BX.out _ VL.out).2.2.1
  have KB := hid (BX.out _ VL.out).2.2.2
  refine bodyPost_ret (self_results _ _ (w.heap.size + 1 + 1) 6 _ _ _ _ Tryz.results78 ((RB.out.setAt (i := 0) _).setAt (i := 1) _) rfl rfl rfl) rfl ⟨lo, some ⟨q, 0, none⟩, co, 4, rfl, ?_, ?_, .inl ⟨rfl, MB.out, rfl⟩⟩
  ·exact (KB.out.set RB.out (.inl rfl) _).set (RB.out.setAt (i := 0) _) (.inl rfl) _
  ·exact ((LB.out _ VL.out).setCell (by dsimp only; omega) _).setCell (by dsimp only; omega) _
 | some u =>
  cases u with
  | zero =>
   rw [hu] at MB
   have MB2 : Hid (dropB X lo id_ = false) := hid (by rw [MB.out]; rfl)
   clear MB
   have MB := MB2
   simp only [idxI, Int.ofNat_zero] at ⊢
   have j0 : decide (((0 : Int)) < 1) = true := rfl
   go_wp2_with fail
   refine wp_region_G 24 (fun W => Below V.heap.size V W) (by kernel_rfl) ?_
   refine tq 0 17 (.int .i64 0) D0.out ?_
   simp only [ap, List.set]
   refine tq 1 18 (.bool true) D0.out ?_
   simp only [ap, List.set]
   refine tq 2 19 (.bool true) D0.out ?_
   simp only [ap, List.set]
   refine sks 20 [(3, 20), (4, 21), (5, 22), (6, 23), (7, 24), (8, 25), (9, 26), (10, 27), (11, 28), (12, 29), (13, 30), (14, 31), (15, 32), (16, 33), (17, 34), (18, 35), (19, 36), (20, 37), (21, 38), (22, 39)] rfl (by kernel_rfl) D0.out ?_
   simp only [putsU, ap, List.set]
   refine tq 23 40 (.bool true) D0.out ?_
   simp only [ap, List.set]
   refine wpAnyG_done (by kernel_rfl) ?_ _
   have VL := hid (D0.out)
   clear D0
   generalize w1.drew = wd at *
   obtain ⟨x0, x1⟩ := (BX.out _ VL.out).1.two
   obtain ⟨s0, s1, s2, s3, s4, s5, s6, s7, s8, s9⟩ := (BX.out _ VL.out).2.1.ten
   obtain ⟨r0, r1⟩ := (BX.out _ VL.out).2.2.1.two
   have rf := (BX.out _ VL.out).2.2.1.warm
   go_wp2
   have RB := hid (BX.out _ VL.out).2.2.1
   have KB := hid (BX.out _ VL.out).2.2.2
   refine bodyPost_ret (self_results _ _ (w.heap.size + 1 + 1) 6 _ _ _ _ Tryz.results78 ((RB.out.setAt (i := 0) _).setAt (i := 1) _) rfl rfl rfl) rfl ⟨lo, some ⟨q, 0, none⟩, co, 4, rfl, ?_, ?_, .inl ⟨rfl, MB.out, rfl⟩⟩
   ·exact (KB.out.set RB.out (.inl rfl) _).set (RB.out.setAt (i := 0) _) (.inl rfl) _
   ·exact ((LB.out _ VL.out).setCell (by dsimp only; omega) _).setCell (by dsimp only; omega) _
  | succ u' =>
   obtain ⟨u, eu⟩ : ∃ u, u = u' + 1 := ⟨_, rfl⟩
   rw [← eu] at hu ⊢
   have u0 : 0 < u := by omega
   clear eu
   obtain ⟨ul, ei⟩ := atL_some hu
   obtain ⟨p, hp⟩ := box_v OK.out u0 ul
   obtain ⟨pl, ep⟩ := atL_some hp
   have eo : atOwnOb lo u = lo[u] := by simp [atOwnOb, ul]
   have eb : atOwnOb lo p = lo[p] := by simp [atOwnOb, pl]
   have MB2 : Hid (dropB X lo id_ = changesB X (lo[p]).b1 (lo[p]).c1) := hid (by rw [MB.out, hu]; simp only [eo, hp, eb, u0, decide_true, Bool.true_and])
   clear MB
   have MB := MB2
   clear MB2
   obtain ⟨o, ho⟩ : ∃ o, o = lo[u] := ⟨_, rfl⟩
   obtain ⟨b, hb⟩ : ∃ o, o = lo[p] := ⟨_, rfl⟩
   have HOb := hid (hO _ (List.getElem_mem pl))
   rw [← hb] at MB HOb
   rw [← ho] at hp
   have EO := hid ho
   have EB := hid hb
   have HU := hid hu
   have HP := hid hp
   have U0 := hid u0
   simp only [idxI]
   have j0 : decide (((u : Nat) : Int) < 1) = false := decide_eq_false (by omega)
   have j1 : (u : Int) < (lo.length : Int) := by omega
   have j2 : (0 : Int) ≤ (u : Int) := by omega
   have j3 : (p : Int) < (lo.length : Int) := by omega
   have j4 : (0 : Int) ≤ (p : Int) := by omega
   clear ei ep eo eb ho hb hu hp u0
   have OC : Hid (∀ W, Below V.heap.size V W → W.cell? ⟨q, u * 10, none⟩ = some (.int .i64 o.id) ∧ W.cell? ⟨q, u * 10 + 1, none⟩ = some (.int .i64 o.kind) ∧ W.cell? ⟨q, u * 10 + 2, none⟩ = some (.int .i64 o.up) ∧ W.cell? ⟨q, u * 10 + 3, none⟩ = some (.int .i64 o.b1) ∧ W.cell? ⟨q, u * 10 + 4, none⟩ = some (.slice o.c1.a o.c1.n o.c1.k) ∧ W.cell? ⟨q, u * 10 + 5, none⟩ = some (.string o.data) ∧ W.cell? ⟨q, u * 10 + 6, none⟩ = some (.slice o.items.a o.items.n o.items.k) ∧ W.cell? ⟨q, u * 10 + 7, none⟩ = some (.slice o.own.a o.own.n o.own.k) ∧ W.cell? ⟨q, u * 10 + 8, none⟩ = some (.int .i64 o.b2) ∧ W.cell? ⟨q, u * 10 + 9, none⟩ = some (.slice o.c2.a o.c2.n o.c2.k)) := hid (fun W hW => by
    have C := ((BX.out _ hW).2.2.2.cell10 ul hd).1
    rw [← EO.out] at C
    exact ⟨C.c0, C.c1, C.c2, C.c3, C.c4, C.c5, C.c6, C.c7, C.c8, C.c9⟩)
   have PC : Hid (∀ W, Below V.heap.size V W → W.cell? ⟨q, p * 10, none⟩ = some (.int .i64 b.id) ∧ W.cell? ⟨q, p * 10 + 1, none⟩ = some (.int .i64 b.kind) ∧ W.cell? ⟨q, p * 10 + 2, none⟩ = some (.int .i64 b.up) ∧ W.cell? ⟨q, p * 10 + 3, none⟩ = some (.int .i64 b.b1) ∧ W.cell? ⟨q, p * 10 + 4, none⟩ = some (.slice b.c1.a b.c1.n b.c1.k) ∧ W.cell? ⟨q, p * 10 + 5, none⟩ = some (.string b.data) ∧ W.cell? ⟨q, p * 10 + 6, none⟩ = some (.slice b.items.a b.items.n b.items.k) ∧ W.cell? ⟨q, p * 10 + 7, none⟩ = some (.slice b.own.a b.own.n b.own.k) ∧ W.cell? ⟨q, p * 10 + 8, none⟩ = some (.int .i64 b.b2) ∧ W.cell? ⟨q, p * 10 + 9, none⟩ = some (.slice b.c2.a b.c2.n b.c2.k)) := hid (fun W hW => by
    have C := ((BX.out _ hW).2.2.2.cell10 pl hd).1
    rw [← EB.out] at C
    exact ⟨C.c0, C.c1, C.c2, C.c3, C.c4, C.c5, C.c6, C.c7, C.c8, C.c9⟩)
   have TC : Hid (∀ W, Below V.heap.size V W → W.cell? ⟨g, t * 7, none⟩ = some (.int .i64 X.id) ∧ W.cell? ⟨g, t * 7 + 1, none⟩ = some (.int .i64 X.b1) ∧ W.cell? ⟨g, t * 7 + 2, none⟩ = some (.slice X.c1.a X.c1.n X.c1.k) ∧ W.cell? ⟨g, t * 7 + 3, none⟩ = some (.int .i64 X.b2) ∧ W.cell? ⟨g, t * 7 + 4, none⟩ = some (.slice X.c2.a X.c2.n X.c2.k) ∧ W.cell? ⟨g, t * 7 + 5, none⟩ = some (.slice X.own.a X.own.n X.own.k) ∧ W.cell? ⟨g, t * 7 + 6, none⟩ = some (.int .i64 X.made)) := hid (fun W hW => by
    have C := ((BX.out _ hW).2.2.2.cell7 ht).1
    rw [← EX.out] at C
    exact ⟨C.c0, C.c1, C.c2, C.c3, C.c4, C.c5, C.c6⟩)
   have E1 : Hid (∀ args w, (callFunc 74 args).run Tryz.prog w = .ok (.enter 74 args) w) := hid (enters_of Tryz.func74 (by kernel_rfl) rfl)
   have E2 : Hid (∀ args w, (callFunc 93 args).run Tryz.prog w = .ok (.enter 93 args) w) := hid (enters_of Tryz.func93 (by kernel_rfl) rfl)
   have F1 : Hid (∀ W, Below V.heap.size V W → Calls Tryz.prog 74 #[.agg #[.slice (some ⟨g, 0, none⟩) lt.length ca, .slice (some ⟨q, 0, none⟩) lo.length co], .int .i64 o.up] W fun e w' => ∃ v, e = .returned v ∧ (v = .int .i64 p ∧ Below W.heap.size W w')) := hid (fun W hW => by
    have h := find_v (BX.out _ hW).2.2.2 hl1 (by omega) hd o.up
    rw [HP.out] at h
    exact calls_v h)
   have F2 : Hid (∀ W, Below V.heap.size V W → Calls Tryz.prog 93 #[.agg #[.int .i64 X.id, .int .i64 X.b1, .slice X.c1.a X.c1.n X.c1.k, .int .i64 X.b2, .slice X.c2.a X.c2.n X.c2.k, .slice X.own.a X.own.n X.own.k, .int .i64 X.made], .agg #[.int .i64 b.b1, .slice b.c1.a b.c1.n b.c1.k]] W fun e w' => ∃ v, e = .returned v ∧ (v = .bool (changesB X b.b1 b.c1) ∧ Below W.heap.size W w')) := hid (fun W hV => calls_v <| changes_v X b.b1 b.c1 W (XA.out.below (LW.out _ hV)) xs ra (by
    have := ((BX.out _ hV).2.2.2.on _ (List.getElem_mem pl)).1.1
    rw [← EB.out] at this
    exact this) HOb.out.1 HOb.out.2)
   generalize changesB X b.b1 b.c1 = c2 at *
   cases c2 with
   | false =>
    go_wp2_with fail
    refine wp_region_G 24 (fun W => Below V.heap.size V W) (by kernel_rfl) ?_
    refine tq 0 17 (.int .i64 u) D0.out ?_
    simp only [ap, List.set]
    refine tq 1 18 (.bool false) D0.out ?_
    simp only [ap, List.set]
    refine tq 2 19 (.bool false) D0.out ?_
    simp only [ap, List.set]
    refine tq 3 20 (.pointer (some ⟨w.heap.size, 0, none⟩)) D0.out ?_
    simp only [ap, List.set]
    refine tq 4 21 (.slice (some ⟨g, 0, none⟩) lt.length ca) D0.out ?_ (hy := fun W h => by obtain ⟨z0, z1⟩ := (BX.out W h).1.two; go_simp)
    simp only [ap, List.set]
    refine tq 5 22 (.int .i64 t) D0.out ?_
    simp only [ap, List.set]
    refine tq 6 23 (.pointer (some ⟨g, t * 7, none⟩)) D0.out ?_
    simp only [ap, List.set]
    refine tq 7 24 (.agg #[.int .i64 X.id, .int .i64 X.b1, .slice X.c1.a X.c1.n X.c1.k, .int .i64 X.b2, .slice X.c2.a X.c2.n X.c2.k, .slice X.own.a X.own.n X.own.k, .int .i64 X.made]) D0.out ?_ (hy := fun W h => by obtain ⟨z0, z1, z2, z3, z4, z5, z6⟩ := TC.out W h; go_simp)
    simp only [ap, List.set]
    refine tq 8 25 (.pointer (some ⟨w.heap.size, 1, none⟩)) D0.out ?_
    simp only [ap, List.set]
    refine tq 9 26 (.slice (some ⟨q, 0, none⟩) lo.length co) D0.out ?_ (hy := fun W h => by obtain ⟨z0, z1⟩ := (BX.out W h).1.two; go_simp)
    simp only [ap, List.set]
    refine tq 10 27 (.agg #[.slice (some ⟨g, 0, none⟩) lt.length ca, .slice (some ⟨q, 0, none⟩) lo.length co]) D0.out ?_ (hy := fun W h => by obtain ⟨z0, z1⟩ := (BX.out W h).1.two; go_simp)
    simp only [ap, List.set]
    refine tq 11 28 (.pointer (some ⟨w.heap.size, 1, none⟩)) D0.out ?_
    simp only [ap, List.set]
    refine tq 12 29 (.slice (some ⟨q, 0, none⟩) lo.length co) D0.out ?_ (hy := fun W h => by obtain ⟨z0, z1⟩ := (BX.out W h).1.two; go_simp)
    simp only [ap, List.set]
    refine tq 13 30 (.int .i64 u) D0.out ?_
    simp only [ap, List.set]
    refine tq 14 31 (.pointer (some ⟨q, u * 10, none⟩)) D0.out ?_
    simp only [ap, List.set]
    refine tq 15 32 (.pointer (some ⟨q, u * 10 + 2, none⟩)) D0.out ?_
    simp only [ap, List.set]
    refine tq 16 33 (.int .i64 o.up) D0.out ?_ (hy := fun W h => by obtain ⟨z0, z1, z2, z3, z4, z5, z6, z7, z8, z9⟩ := OC.out W h; obtain ⟨n0, n1, n2, n3, n4, n5, n6, n7, n8, n9⟩ := PC.out W h; go_simp)
    simp only [ap, List.set]
    refine wpAnyG_one (i := 17) (by kernel_rfl) rfl ?_
    intro K hK
    refine step_call2g (by rfl) 74 _ _ _ (by rfl) E1.out _ _ (by rfl) (by rfl) (some 34) (by rfl) _ (F1.out _ D0.out) ?_
    rintro v w2 ⟨rfl, hb⟩
    have H1 := then_ D0.out hb
    refine hK.out _ _ (fun _ => H1) ?_
    clear hK K hb
    simp only [ap, List.set]
    refine tq 18 35 (.pointer (some ⟨q, p * 10, none⟩)) H1 ?_
    simp only [ap, List.set]
    refine tq 19 36 (.pointer (some ⟨q, p * 10 + 3, none⟩)) H1 ?_
    simp only [ap, List.set]
    refine tq 20 37 (.agg #[.int .i64 b.b1, .slice b.c1.a b.c1.n b.c1.k]) H1 ?_ (hy := fun W h => by obtain ⟨z0, z1, z2, z3, z4, z5, z6, z7, z8, z9⟩ := OC.out W h; obtain ⟨n0, n1, n2, n3, n4, n5, n6, n7, n8, n9⟩ := PC.out W h; go_simp)
    simp only [ap, List.set]
    refine wpAnyG_one (i := 21) (by kernel_rfl) rfl ?_
    intro K hK
    refine step_call2g (by rfl) 93 _ _ _ (by rfl) E2.out _ _ (by rfl) (by rfl) (some 38) (by rfl) _ (F2.out _ H1) ?_
    rintro v w3 ⟨rfl, hb⟩
    have H2 := then_ H1 hb
    refine hK.out _ _ (fun _ => H2) ?_
    clear hK K hb
    simp only [ap, List.set]
    refine tq 22 39 (.bool true) H2 ?_
    simp only [ap, List.set]
    refine tq 23 40 (.bool true) H2 ?_
    simp only [ap, List.set]
    refine wpAnyG_done (by kernel_rfl) ?_ _
    have VL := hid (H2)
    obtain ⟨x0, x1⟩ := (BX.out _ VL.out).1.two
    obtain ⟨s0, s1, s2, s3, s4, s5, s6, s7, s8, s9⟩ := (BX.out _ VL.out).2.1.ten
    obtain ⟨r0, r1⟩ := (BX.out _ VL.out).2.2.1.two
    have rf := (BX.out _ VL.out).2.2.1.warm
    go_wp2
    have RB := hid (BX.out _ VL.out).2.2.1
    have KB := hid (BX.out _ VL.out).2.2.2
    refine bodyPost_ret (self_results _ _ (w.heap.size + 1 + 1) 6 _ _ _ _ Tryz.results78 ((RB.out.setAt (i := 0) _).setAt (i := 1) _) rfl rfl rfl) rfl ⟨lo, some ⟨q, 0, none⟩, co, 4, rfl, ?_, ?_, .inl ⟨rfl, MB.out, rfl⟩⟩
    ·exact (KB.out.set RB.out (.inl rfl) _).set (RB.out.setAt (i := 0) _) (.inl rfl) _
    ·exact ((LB.out _ VL.out).setCell (by dsimp only; omega) _).setCell (by dsimp only; omega) _
   | true =>
   go_wp2_with fail
   refine wp_region_G 24 (fun W => Below V.heap.size V W) (by kernel_rfl) ?_
   refine tq 0 17 (.int .i64 u) D0.out ?_
   simp only [ap, List.set]
   refine tq 1 18 (.bool false) D0.out ?_
   simp only [ap, List.set]
   refine tq 2 19 (.bool false) D0.out ?_
   simp only [ap, List.set]
   refine tq 3 20 (.pointer (some ⟨w.heap.size, 0, none⟩)) D0.out ?_
   simp only [ap, List.set]
   refine tq 4 21 (.slice (some ⟨g, 0, none⟩) lt.length ca) D0.out ?_ (hy := fun W h => by obtain ⟨z0, z1⟩ := (BX.out W h).1.two; go_simp)
   simp only [ap, List.set]
   refine tq 5 22 (.int .i64 t) D0.out ?_
   simp only [ap, List.set]
   refine tq 6 23 (.pointer (some ⟨g, t * 7, none⟩)) D0.out ?_
   simp only [ap, List.set]
   refine tq 7 24 (.agg #[.int .i64 X.id, .int .i64 X.b1, .slice X.c1.a X.c1.n X.c1.k, .int .i64 X.b2, .slice X.c2.a X.c2.n X.c2.k, .slice X.own.a X.own.n X.own.k, .int .i64 X.made]) D0.out ?_ (hy := fun W h => by obtain ⟨z0, z1, z2, z3, z4, z5, z6⟩ := TC.out W h; go_simp)
   simp only [ap, List.set]
   refine tq 8 25 (.pointer (some ⟨w.heap.size, 1, none⟩)) D0.out ?_
   simp only [ap, List.set]
   refine tq 9 26 (.slice (some ⟨q, 0, none⟩) lo.length co) D0.out ?_ (hy := fun W h => by obtain ⟨z0, z1⟩ := (BX.out W h).1.two; go_simp)
   simp only [ap, List.set]
   refine tq 10 27 (.agg #[.slice (some ⟨g, 0, none⟩) lt.length ca, .slice (some ⟨q, 0, none⟩) lo.length co]) D0.out ?_ (hy := fun W h => by obtain ⟨z0, z1⟩ := (BX.out W h).1.two; go_simp)
   simp only [ap, List.set]
   refine tq 11 28 (.pointer (some ⟨w.heap.size, 1, none⟩)) D0.out ?_
   simp only [ap, List.set]
   refine tq 12 29 (.slice (some ⟨q, 0, none⟩) lo.length co) D0.out ?_ (hy := fun W h => by obtain ⟨z0, z1⟩ := (BX.out W h).1.two; go_simp)
   simp only [ap, List.set]
   refine tq 13 30 (.int .i64 u) D0.out ?_
   simp only [ap, List.set]
   refine tq 14 31 (.pointer (some ⟨q, u * 10, none⟩)) D0.out ?_
   simp only [ap, List.set]
   refine tq 15 32 (.pointer (some ⟨q, u * 10 + 2, none⟩)) D0.out ?_
   simp only [ap, List.set]
   refine tq 16 33 (.int .i64 o.up) D0.out ?_ (hy := fun W h => by obtain ⟨z0, z1, z2, z3, z4, z5, z6, z7, z8, z9⟩ := OC.out W h; obtain ⟨n0, n1, n2, n3, n4, n5, n6, n7, n8, n9⟩ := PC.out W h; go_simp)
   simp only [ap, List.set]
   refine wpAnyG_one (i := 17) (by kernel_rfl) rfl ?_
   intro K hK
   refine step_call2g (by rfl) 74 _ _ _ (by rfl) E1.out _ _ (by rfl) (by rfl) (some 34) (by rfl) _ (F1.out _ D0.out) ?_
   rintro v w2 ⟨rfl, hb⟩
   have H1 := then_ D0.out hb
   refine hK.out _ _ (fun _ => H1) ?_
   clear hK K hb
   simp only [ap, List.set]
   refine tq 18 35 (.pointer (some ⟨q, p * 10, none⟩)) H1 ?_
   simp only [ap, List.set]
   refine tq 19 36 (.pointer (some ⟨q, p * 10 + 3, none⟩)) H1 ?_
   simp only [ap, List.set]
   refine tq 20 37 (.agg #[.int .i64 b.b1, .slice b.c1.a b.c1.n b.c1.k]) H1 ?_ (hy := fun W h => by obtain ⟨z0, z1, z2, z3, z4, z5, z6, z7, z8, z9⟩ := OC.out W h; obtain ⟨n0, n1, n2, n3, n4, n5, n6, n7, n8, n9⟩ := PC.out W h; go_simp)
   simp only [ap, List.set]
   refine wpAnyG_one (i := 21) (by kernel_rfl) rfl ?_
   intro K hK
   refine step_call2g (by rfl) 93 _ _ _ (by rfl) E2.out _ _ (by rfl) (by rfl) (some 38) (by rfl) _ (F2.out _ H1) ?_
   rintro v w3 ⟨rfl, hb⟩
   have H2 := then_ H1 hb
   refine hK.out _ _ (fun _ => H2) ?_
   clear hK K hb
   simp only [ap, List.set]
   refine tq 22 39 (.bool false) H2 ?_
   simp only [ap, List.set]
   refine tq 23 40 (.bool false) H2 ?_
   simp only [ap, List.set]
   refine wpAnyG_done (by kernel_rfl) ?_ _
   have VL := hid H2
   clear H1 H2 OC PC TC F1 F2 E1 E2 D0 V1 V0
   obtain ⟨x0, x1⟩ := (BX.out _ VL.out).1.two
   obtain ⟨s0, s1, s2, s3, s4, s5, s6, s7, s8, s9⟩ := (BX.out _ VL.out).2.1.ten
   obtain ⟨r0, r1⟩ := (BX.out _ VL.out).2.2.1.two
   have rf := (BX.out _ VL.out).2.2.1.warm
   go_wp2_with fail
   refine (under_v (BX.out _ VL.out).2.2.2 hl1 (by omega) hd OK.out HU.out).mono ?_
   rintro e w4 ⟨ga, gc, rfl, og, hb4⟩
   have V4 := hid (then_ VL.out hb4)
   have gle : (goneL lo u).length ≤ 271 := goneL_len OK.out HU.out
   have GA : Hid (∀ W, Below w4.heap.size w4 W → IntL.at W ⟨ga, (goneL lo u).length, gc, nthI (goneL lo u)⟩) := hid (fun W hW => (og.newL (by omega)).1.below hW)
   have E0 := hid (OwnOb.made w4 w4.heap.size (Nat.le_refl _))
   have BE := hid ((Below.refl _ w4).alloc (Nat.le_refl _) (.cells #[] 88))
   obtain ⟨GL, eGL⟩ : ∃ l, l = goneL lo u := ⟨_, rfl⟩
   rw [← eGL] at gle GA og ⊢
   have EG := hid eGL
   clear x0 x1 s0 s1 s2 s3 s4 s5 s6 s7 s8 s9 r0 r1 rf og hb4 eGL
   obtain ⟨x0, x1⟩ := (BX.out _ V4.out).1.two
   obtain ⟨s0, s1, s2, s3, s4, s5, s6, s7, s8, s9⟩ := (BX.out _ V4.out).2.1.ten
   obtain ⟨r0, r1⟩ := (BX.out _ V4.out).2.2.1.two
   have rf := (BX.out _ V4.out).2.2.1.warm
   go_wp2
   clear x0 x1 s0 s1 s2 s3 s4 s5 s6 s7 s8 s9 r0 r1 rf
   go_loopw [11, 12] (fun v i wr => ∃ (j : Nat) (la : Option Addr) (lc : Nat), j ≤ lo.length ∧ i = .int .i64 j ∧ v = .slice la (stayL GL lo j).length lc ∧ OwnOb wr w4.heap.size (.slice la (stayL GL lo j).length lc) (stayL GL lo j) ∧ Below w4.heap.size w4 wr) (fun _ i _ => lo.length - (intOf i).toNat)
   case atStart => exact ⟨0, _, 0, Nat.zero_le _, rfl, rfl, E0.out, BE.out⟩
   case round =>
    clear E0 BE
    obtain ⟨j, la, lc, hj, rfl, rfl, ow, be⟩ := hrel
    have OW := hid ow
    have BB := hid be
    have VW := hid (V4.out.trans (be.mono V4.out.size))
    have ll := stayL_len GL lo j
    obtain ⟨SL, eSL⟩ : ∃ l, l = stayL GL lo j := ⟨_, rfl⟩
    rw [← eSL] at OW ll ⊢
    have ES := hid eSL
    clear ow be eSL
    obtain ⟨x0, x1⟩ := (BX.out _ VW.out).1.two
    obtain ⟨s0, s1, s2, s3, s4, s5, s6, s7, s8, s9⟩ := (BX.out _ VW.out).2.1.ten
    obtain ⟨r0, r1⟩ := (BX.out _ VW.out).2.2.1.two
    have rf := (BX.out _ VW.out).2.2.1.warm
    by_cases hlt : j < lo.length
    ·have i2 : (j : Int) < (lo.length : Int) := by omega
     have i3 : (0 : Int) ≤ (j : Int) := by omega
     obtain ⟨y, ey⟩ : ∃ y, y = lo[j] := ⟨_, rfl⟩
     have CJ : Hid (∀ W, Below V.heap.size V W → Cells10 W q (j * 10) y) := hid (fun W hW => by rw [ey]; exact ((BX.out _ hW).2.2.2.cell10 hlt hd).1)
     have HLT := hid hlt
     have EY := hid ey
     have q0 : wr.cell? ⟨q, j * 10, none⟩ = some (.int .i64 y.id) := (CJ.out _ VW.out).c0
     have q1 : wr.cell? ⟨q, j * 10 + 1, none⟩ = some (.int .i64 y.kind) := (CJ.out _ VW.out).c1
     have q2 : wr.cell? ⟨q, j * 10 + 2, none⟩ = some (.int .i64 y.up) := (CJ.out _ VW.out).c2
     have q3 : wr.cell? ⟨q, j * 10 + 3, none⟩ = some (.int .i64 y.b1) := (CJ.out _ VW.out).c3
     have q4 : wr.cell? ⟨q, j * 10 + 4, none⟩ = some (.slice y.c1.a y.c1.n y.c1.k) := (CJ.out _ VW.out).c4
     have q5 : wr.cell? ⟨q, j * 10 + 5, none⟩ = some (.string y.data) := (CJ.out _ VW.out).c5
     have q6 : wr.cell? ⟨q, j * 10 + 6, none⟩ = some (.slice y.items.a y.items.n y.items.k) := (CJ.out _ VW.out).c6
     have q7 : wr.cell? ⟨q, j * 10 + 7, none⟩ = some (.slice y.own.a y.own.n y.own.k) := (CJ.out _ VW.out).c7
     have q8 : wr.cell? ⟨q, j * 10 + 8, none⟩ = some (.int .i64 y.b2) := (CJ.out _ VW.out).c8
     have q9 : wr.cell? ⟨q, j * 10 + 9, none⟩ = some (.slice y.c2.a y.c2.n y.c2.k) := (CJ.out _ VW.out).c9
     have QB : Hid (q < V.heap.size) := hid ((BX.out _ (Below.refl V.heap.size V)).2.2.2.cell10 hlt hd).2
     obtain ⟨hv, ehv⟩ : ∃ b, b = hasB GL.length (nthI GL) y.id := ⟨_, rfl⟩
     have CH := has_v ⟨ga, GL.length, gc, nthI GL⟩ y.id wr (GA.out _ BB.out)
     have eh : hasB (IntL.n ⟨ga, GL.length, gc, nthI GL⟩) (IntL.h ⟨ga, GL.length, gc, nthI GL⟩) y.id = hv := ehv.symm
     rw [eh] at CH
     have CH' := hid CH
     have EH := hid ehv
     clear CH eh ehv ey
     cases hv with
     | true =>
      go_wp2_with fail
      refine CH'.out.mono ?_
      rintro e w5 ⟨rfl, e5⟩
      obtain rfl : wr = w5 := e5.symm
      go_wp2
      go_roundw
      case rel => exact ⟨j + 1, la, lc, by have := HLT.out; omega, by go_num, by rw [stayL_skip HLT.out (by rw [← EY.out]; exact EH.out.symm), ← ES.out], by rw [stayL_skip HLT.out (by rw [← EY.out]; exact EH.out.symm), ← ES.out]; exact OW.out, BB.out⟩
      case measure => have := HLT.out; simp [intOf]; omega
     | false =>
      go_wp2_with fail
      refine CH'.out.mono ?_
      rintro e w5 ⟨rfl, e5⟩
      obtain rfl : wr = w5 := e5.symm
      have sV : w4.heap.size ≤ wr.heap.size := BB.out.size
      have qw : q < wr.heap.size := Nat.lt_of_lt_of_le QB.out VW.out.size
      have QO := hid (OW.out.below ((Below.refl _ wr).alloc (Nat.le_refl _) (.cells #[.int .i64 y.id, .int .i64 y.kind, .int .i64 y.up, .int .i64 y.b1, .slice y.c1.a y.c1.n y.c1.k, .string y.data, .slice y.items.a y.items.n y.items.k, .slice y.own.a y.own.n y.own.k, .int .i64 y.b2, .slice y.c2.a y.c2.n y.c2.k] 88)))
      have QL : Hid (LiesC (wr.alloc (.cells #[.int .i64 y.id, .int .i64 y.kind, .int .i64 y.up, .int .i64 y.b1, .slice y.c1.a y.c1.n y.c1.k, .string y.data, .slice y.items.a y.items.n y.items.k, .slice y.own.a y.own.n y.own.k, .int .i64 y.b2, .slice y.c2.a y.c2.n y.c2.k] 88)) (some ⟨wr.heap.size, 0, none⟩) 1 (cells10 [y])) := hid (OwnOb.one wr y)
      have sQ : w4.heap.size ≤ (wr.alloc (.cells #[.int .i64 y.id, .int .i64 y.kind, .int .i64 y.up, .int .i64 y.b1, .slice y.c1.a y.c1.n y.c1.k, .string y.data, .slice y.items.a y.items.n y.items.k, .slice y.own.a y.own.n y.own.k, .int .i64 y.b2, .slice y.c2.a y.c2.n y.c2.k] 88)).heap.size := by simp; omega
      have bQ := hid (BB.out.alloc BB.out.size (.cells #[.int .i64 y.id, .int .i64 y.kind, .int .i64 y.up, .int .i64 y.b1, .slice y.c1.a y.c1.n y.c1.k, .string y.data, .slice y.items.a y.items.n y.items.k, .slice y.own.a y.own.n y.own.k, .int .i64 y.b2, .slice y.c2.a y.c2.n y.c2.k] 88))
      go_wp2_with (at_builtin; refine wpList_appendOwnOb _ rfl _ _ rfl w4.heap.size (.slice la SL.length lc) SL rfl QO.out _ _ y rfl QL.out (by omega) sQ ?_; intro a7 c7 w7 o7 g7; have O7 := hid o7; have B7 : Hid (Below w4.heap.size w4 w7) := hid (bQ.out.trans (below_grown g7 sQ (fun j e => (World.ownsRow.lt QO.out j e).1))); clear o7 g7)
      have ER : Hid (stayL GL lo (j + 1) = SL ++ [y]) := hid (by rw [stayL_more HLT.out (by rw [← EY.out]; exact EH.out.symm), ES.out, ← EY.out])
      go_roundw
      case rel => exact ⟨j + 1, a7, c7, by have := HLT.out; omega, by go_num, by rw [ER.out]; simp, by rw [ER.out, show (SL ++ [y]).length = SL.length + 1 from by simp]; exact O7.out, B7.out⟩
      case measure => have := HLT.out; simp [intOf]; omega
    ·obtain rfl : j = lo.length := by omega
     have i2 : ¬ (lo.length : Int) < (lo.length : Int) := by omega
     have AB := hid (BX.out _ VW.out).1
     have RB := hid (BX.out _ VW.out).2.2.1
     have xf := AB.out.warm
     have KB := hid (BX.out _ VW.out).2.2.2
     have LD := hid (LB.out _ VW.out)
     have B4 : Hid (B ≤ w4.heap.size) := hid (Nat.le_trans hB (LW.out _ V4.out).size)
     go_wp2
     have RA : Hid (Blk (wr.setCell ⟨w.heap.size, 1, none⟩ (.slice la SL.length lc)) (w.heap.size + 1 + 1) (.cells #[.slice none 0 0, .slice none 0 0] 42)) := hid (RB.out.other (by omega) _)
     refine bodyPost_ret (self_results _ _ (w.heap.size + 1 + 1) 6 _ _ _ _ Tryz.results78 ((RA.out.setAt (i := 0) _).setAt (i := 1) _) rfl rfl rfl) rfl ⟨SL, la, lc, 0, rfl, ?_, ?_, .inr ⟨rfl, MB.out, u, HU.out, U0.out, by rw [ES.out, EG.out]⟩⟩
     ·have ms : ∀ x ∈ SL, x ∈ lo := fun x hx => by
       rw [ES.out] at hx
       exact List.mem_of_mem_take (List.mem_filter.1 hx).1
      have k1 : KSt wr B (.slice (some ⟨g, 0, none⟩) lt.length ca) (.slice la SL.length lc) lt SL := ⟨KB.out.t, OW.out.base B4.out, KB.out.tn, fun x hx => KB.out.on x (ms x hx), KB.out.tc, fun x hx => KB.out.oc x (ms x hx)⟩
      exact ((k1.set AB.out (.inl rfl) _).set RA.out (.inl rfl) _).set (RA.out.setAt (i := 0) _) (.inl rfl) _
     ·exact ((LD.out.setCell (by dsimp only; omega) _).setCell (by dsimp only; omega) _).setCell (by dsimp only; omega) _
end Go.Proofs.YthbmfbnnemgbpaaGreatDoor
