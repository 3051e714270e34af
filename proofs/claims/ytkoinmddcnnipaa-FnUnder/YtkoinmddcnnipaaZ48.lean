/- Drawn kernels and numbers; what the law's helpers answer. -/
import Derived.Test.YtkoinmddcnnipaaZ11
import Derived.Test.YtkoinmddcnnipaaNF4
import Derived.Test.YtkoinmddcnnipaaZ45
namespace Go.Proofs.Ytkoinmddcnnipaa
open Go Go.RowKit Go.Deep Go.Maps Go.BigFrame Go.Shelf

structure KerF (lt : List ThrV) (lo : List ObjV) : Prop where
 tn : 1 ≤ lt.length ∧ lt.length ≤ 9
 on : 1 ≤ lo.length ∧ lo.length ≤ 271
 t : ∀ x ∈ lt, x.small
 o : ∀ x ∈ lo, x.small ∧ (0 ≤ x.id ∧ x.id ≤ 1000000) ∧ InI x.up
theorem okL_F {lt : List ThrV} {lo : List ObjV} (ok : okL lt lo = true) : KerF lt lo := by
 refine ⟨okL_tn ok, okL_on ok, fun x hx => (okL_thr ok x hx).small, fun x hx => ?_⟩
 have f := okL_obj ok x hx
 have it := okL_items ok x hx
 refine ⟨⟨by have := (lab_rise f.l1).2; omega, by have := plain_size f.data; omega, ⟨by omega, fun i hi => by have := plain_size (it.2 i hi); omega⟩, by have := own_n f.own; omega, by have := (lab_rise f.l2).2; omega⟩, okL_id ok x hx, ?_⟩
 obtain ⟨i, hi, e⟩ := List.mem_iff_getElem.1 hx
 have e2 : atOwnOb lo i = x := (atOwnOb_get hi).trans e
 by_cases h0 : i = 0
 ·subst h0
  have := (okL_root ok).2.2
  rw [e2] at this
  rw [this]
  exact InI.of (by omega) (by omega)
 ·obtain ⟨p, p1, p2, _⟩ := (kerOk_iff.1 ok).box i (by omega) hi
  have p3 : (atOwnOb lo p).id = (atOwnOb lo i).up := p2
  have hp : p < lo.length := p1
  have := okL_id ok _ (List.getElem_mem hp)
  rw [e2, atOwnOb_get hp] at p3
  rw [← p3]
  exact InI.of (by omega) (by omega)
theorem KerD.F {lt : List ThrV} {lo : List ObjV} (h : KerD lt lo) : KerF lt lo := by
 cases h with
 | right h => exact okL_F h
 | up h u o d hu ho hd =>
  have f := okL_F h
  refine ⟨f.tn, by simpa using f.on, f.t, fun x hx => ?_⟩
  rcases mem_set hx with rfl | hx
  ·have := f.o _ (List.getElem_mem hu)
   rw [← ho] at this
   exact ⟨this.1, this.2.1, hd⟩
  ·exact f.o x hx
 | kind h u o d hu ho hd =>
  have f := okL_F h
  refine ⟨f.tn, by simpa using f.on, f.t, fun x hx => ?_⟩
  rcases mem_set hx with rfl | hx
  ·have := f.o _ (List.getElem_mem hu)
   rw [← ho] at this
   exact this
  ·exact f.o x hx
 | made h X d ht hX hd =>
  have f := okL_F h
  refine ⟨by simpa using f.tn, f.on, fun x hx => ?_, f.o⟩
  rcases mem_set hx with rfl | hx
  ·have := f.t _ (List.getElem_mem ht)
   rw [← hX] at this
   exact this
  ·exact f.t x hx
theorem KerF.data {lt : List ThrV} {lo : List ObjV} (h : KerF lt lo) : ∀ x ∈ lo, x.data.size ≤ maxLen := fun x hx => by
 have := (h.o x hx).1.2.1
 unfold maxLen
 omega
theorem drawO_results (tmps : Array Value) (W : World) (P : Nat) (x y v : Value) (h : Blk W P (.cells #[x, y] 27)) (h2 : tmps[2]? = some (.pointer (some ⟨P, 0, none⟩))) (h3 : tmps[3]? = some v) :
  (results Try.f13 tmps).run Try.prog W = .ok (.tuple #[.agg #[x, y], v]) W := by
 obtain ⟨z0, z1⟩ := h.two
 simp [results, Try.results13, go_sem, h2, h3, z0, z1]
theorem drawU_results (tmps : Array Value) (W : World) (P : Nat) (x y v : Value) (h : Blk W P (.cells #[x, y] 27)) (h2 : tmps[2]? = some (.pointer (some ⟨P, 0, none⟩))) (h3 : tmps[3]? = some v) :
  (results Try.f5 tmps).run Try.prog W = .ok (.tuple #[.agg #[x, y], v]) W := by
 obtain ⟨z0, z1⟩ := h.two
 simp [results, Try.results5, go_sem, h2, h3, z0, z1]

set_option maxRecDepth 100000 in
set_option maxHeartbeats 8000000 in
theorem drawObjectOf_any (a : Option Addr) (n cap : Nat) (w : World) (hn : n ≤ 1048576) (hb : BytesAt w a n) :
  Calls Try.prog 13 #[.slice a n cap] w fun e w' => ∃ (lt : List ThrV) (lo : List ObjV) (g ca q co : Nat) (x : Int), e = .returned (.tuple #[.agg #[.slice (some ⟨g, 0, none⟩) lt.length ca, .slice (some ⟨q, 0, none⟩) lo.length co], .int .i64 x]) ∧ KSt w' w.heap.size (.slice (some ⟨g, 0, none⟩) lt.length ca) (.slice (some ⟨q, 0, none⟩) lo.length co) lt lo ∧ KerD lt lo ∧ (0 ≤ x ∧ x ≤ 1000000) ∧ Below w.heap.size w w' := by
 have R0 := hid (Blk.new w (.cells #[.slice none 0 0, .slice none 0 0] 27))
 have B0 : Hid (Below w.heap.size w (w.alloc (.cells #[.slice none 0 0, .slice none 0 0] 27))) := hid ((Below.refl _ w).alloc (Nat.le_refl _) _)
 have HB := hid (hb.below B0.out)
 have v0 : (w.alloc (.cells #[.slice none 0 0, .slice none 0 0] 27)).heap.size = w.heap.size + 1 := by simp
 clear hb
 go_enter Try.func13, Try.ntmps13
 go_wp2_with fail
 generalize w.alloc (.cells #[.slice none 0 0, .slice none 0 0] 27) = V at *
 refine (l1Open_any a n cap V hn HB.out).mono ?_
 rintro e w1 ⟨rb, rfl, r1⟩
 have R1 := hid r1
 have l1 := r1.lt
 have le1 := r1.le
 clear r1
 go_wp2_with fail
 refine (rdKernel_any V rb a n cap w1 R1.out).mono ?_
 rintro e w2 ⟨lt, lo, g, ca, q, co, rfl, ks, kd, r2, g2⟩
 have RR := hid r2
 have KD := hid kd
 have KF := hid kd.F
 have K3 := hid (ks.below ((Below.refl _ w2).alloc (Nat.le_refl _) (.cells #[.slice (some ⟨g, 0, none⟩) lt.length ca, .slice (some ⟨q, 0, none⟩) lo.length co] 27)))
 have C3 := hid (Blk.new w2 (.cells #[.slice (some ⟨g, 0, none⟩) lt.length ca, .slice (some ⟨q, 0, none⟩) lo.length co] 27))
 have R3 := hid (r2.below ((Below.refl _ w2).alloc (Nat.le_refl _) (.cells #[.slice (some ⟨g, 0, none⟩) lt.length ca, .slice (some ⟨q, 0, none⟩) lo.length co] 27)))
 have c2 : w.heap.size < w2.heap.size := by have := g2.size; omega
 have c3 : rb < w2.heap.size := by have := g2.size; omega
 clear r2 ks kd g2 R1 RR
 go_wp2_with fail
 generalize w2.alloc (.cells #[.slice (some ⟨g, 0, none⟩) lt.length ca, .slice (some ⟨q, 0, none⟩) lo.length co] 27) = W3 at *
 generalize w2.heap.size = C at *
 have DR : Hid (KSt W3.drew w1.heap.size (.slice (some ⟨g, 0, none⟩) lt.length ca) (.slice (some ⟨q, 0, none⟩) lo.length co) lt lo ∧ Blk W3.drew C (.cells #[.slice (some ⟨g, 0, none⟩) lt.length ca, .slice (some ⟨q, 0, none⟩) lo.length co] 27)) := hid ⟨K3.out.below (below_drew (Below.refl _ W3)), C3.out.below (below_drew (Below.refl _ W3))⟩
 have E1 : Hid (∀ args w, (callFunc 24 args).run Try.prog w = .ok (.enter 24 args) w) := hid (enters_of Try.func24 (by kernel_rfl) rfl)
 have FI : Hid (Calls Try.prog 24 #[.pointer (some ⟨rb, 0, none⟩), .agg #[.slice (some ⟨g, 0, none⟩) lt.length ca, .slice (some ⟨q, 0, none⟩) lo.length co]] W3.drew fun e w' => ∃ v, e = .returned v ∧ (∃ x : Int, v = .int .i64 x ∧ (0 ≤ x ∧ x ≤ 1000000) ∧ (KSt w' w1.heap.size (.slice (some ⟨g, 0, none⟩) lt.length ca) (.slice (some ⟨q, 0, none⟩) lo.length co) lt lo ∧ Blk w' C (.cells #[.slice (some ⟨g, 0, none⟩) lt.length ca, .slice (some ⟨q, 0, none⟩) lo.length co] 27)) ∧ Blk w' w.heap.size (.cells #[.slice none 0 0, .slice none 0 0] 27) ∧ Below w.heap.size w w')) := hid (by
  have rd := R3.out.drew
  refine (rdId_any V rb a n cap W3.drew rd lt lo g ca q co w1.heap.size DR.out.1 l1 KF.out.on.1 (by have := KF.out.on.2; omega) KF.out.data (fun x hx => (KF.out.o x hx).2.1)).mono ?_
  rintro e w' ⟨x, e1, hx, r, g'⟩
  exact ⟨_, e1, x, rfl, hx, ⟨DR.out.1.grownR g' l1, DR.out.2.grown g' (by simp; omega)⟩, R0.out.below r.E, then_ B0.out r.E⟩)
 refine wp_region_G 6 (fun W => KSt W w1.heap.size (.slice (some ⟨g, 0, none⟩) lt.length ca) (.slice (some ⟨q, 0, none⟩) lo.length co) lt lo ∧ Blk W C (.cells #[.slice (some ⟨g, 0, none⟩) lt.length ca, .slice (some ⟨q, 0, none⟩) lo.length co] 27)) (by kernel_rfl) ?_
 refine tk 0 10 (.agg #[.slice (some ⟨g, 0, none⟩) lt.length ca, .slice (some ⟨q, 0, none⟩) lo.length co]) rfl rfl (by kernel_rfl) rfl (fun W h => by obtain ⟨z0, z1⟩ := h.2.two; go_simp) DR.out ?_
 simp only [ap, List.set]
 refine tk 1 11 (.pointer (some ⟨rb, 0, none⟩)) rfl rfl (by kernel_rfl) rfl (fun W h => by go_simp) DR.out ?_
 simp only [ap, List.set]
 refine tk 2 12 (.agg #[.slice (some ⟨g, 0, none⟩) lt.length ca, .slice (some ⟨q, 0, none⟩) lo.length co]) rfl rfl (by kernel_rfl) rfl (fun W h => by obtain ⟨z0, z1⟩ := h.2.two; go_simp) DR.out ?_
 simp only [ap, List.set]
 generalize W3.drew = WD at *
 refine wpAnyG_one (i := 3) (by kernel_rfl) rfl ?_
 intro K hK
 refine step_call2g (by rfl) 24 _ _ _ (by rfl) E1.out _ _ (by rfl) (by rfl) (some 13) (by rfl) _ FI.out ?_
 rintro v w4 ⟨x, rfl, hx, hS, hR, hB⟩
 have H1 := hid hS
 have RX := hid hR
 have BX := hid hB
 have HX := hid hx
 refine hK.out _ _ (fun _ => H1.out) ?_
 clear hK K hS hR hB hx
 simp only [ap, List.set]
 obtain ⟨r0, r1⟩ := RX.out.two
 have rf := RX.out.warm
 refine wpAnyG_one (i := 4) (by kernel_rfl) rfl ?_
 intro K hK
 go_simp
 refine hK.out _ _ (fun _ => ⟨(H1.out.1.set RX.out (.inl rfl) _).set (RX.out.setAt (i := 0) _) (.inl rfl) _, (H1.out.2.other (by omega) _).other (by omega) _⟩) ?_
 clear hK K
 try simp only [ap, List.set]
 refine tk 5 3 (.int .i64 x) rfl rfl (by kernel_rfl) rfl (fun W h => by go_simp) ⟨(H1.out.1.set RX.out (.inl rfl) _).set (RX.out.setAt (i := 0) _) (.inl rfl) _, (H1.out.2.other (by omega) _).other (by omega) _⟩ ?_
 simp only [ap, List.set]
 refine wpAnyG_done (by kernel_rfl) ?_ _
 go_wp2
 refine bodyPost_ret (drawO_results _ _ w.heap.size _ _ _ ((RX.out.setAt (i := 0) _).setAt (i := 1) _) rfl rfl) rfl ⟨lt, lo, g, ca, q, co, x, rfl, ?_, KD.out, HX.out, ?_⟩
 ·exact (((H1.out.1.base (by omega)).set RX.out (.inl rfl) _).set (RX.out.setAt (i := 0) _) (.inl rfl) _)
 ·exact (BX.out.setCell (Nat.le_refl _) _).setCell (Nat.le_refl _) _

set_option maxRecDepth 100000 in
set_option maxHeartbeats 8000000 in
theorem drawUnder_any (a : Option Addr) (n cap : Nat) (w : World) (hn : n ≤ 1048576) (hb : BytesAt w a n) :
  Calls Try.prog 5 #[.slice a n cap] w fun e w' => ∃ (lt : List ThrV) (lo : List ObjV) (g ca q co : Nat) (x : Int), e = .returned (.tuple #[.agg #[.slice (some ⟨g, 0, none⟩) lt.length ca, .slice (some ⟨q, 0, none⟩) lo.length co], .int .i64 x]) ∧ KSt w' w.heap.size (.slice (some ⟨g, 0, none⟩) lt.length ca) (.slice (some ⟨q, 0, none⟩) lo.length co) lt lo ∧ KerD lt lo ∧ (0 ≤ x ∧ x ≤ 1000000) ∧ Below w.heap.size w w' := by
 have R0 := hid (Blk.new w (.cells #[.slice none 0 0, .slice none 0 0] 27))
 have B0 : Hid (Below w.heap.size w (w.alloc (.cells #[.slice none 0 0, .slice none 0 0] 27))) := hid ((Below.refl _ w).alloc (Nat.le_refl _) _)
 have HB := hid (hb.below B0.out)
 clear hb
 go_enter Try.func5, Try.ntmps5
 go_wp2_with fail
 generalize w.alloc (.cells #[.slice none 0 0, .slice none 0 0] 27) = V at *
 refine (drawObjectOf_any a n cap V hn HB.out).mono ?_
 rintro e w1 ⟨lt, lo, g, ca, q, co, x, rfl, ks, kd, hx, b1⟩
 have KS := hid (ks.base B0.out.size)
 have KD := hid kd
 have HX := hid hx
 have RB := hid (R0.out.below b1)
 have L1 := hid (then_ B0.out b1)
 clear ks kd hx b1
 obtain ⟨r0, r1⟩ := RB.out.two
 have rf := RB.out.warm
 go_wp2
 refine bodyPost_ret (drawU_results _ _ w.heap.size _ _ _ ((RB.out.setAt (i := 0) _).setAt (i := 1) _) rfl rfl) rfl ⟨lt, lo, g, ca, q, co, x, rfl, ?_, KD.out, HX.out, ?_⟩
 ·exact (KS.out.set RB.out (.inl rfl) _).set (RB.out.setAt (i := 0) _) (.inl rfl) _
 ·exact (L1.out.setCell (Nat.le_refl _) _).setCell (Nat.le_refl _) _
theorem big_any (a : Option Addr) (n cap : Nat) (w : World) : Calls Try.prog 4 #[.slice a n cap] w fun e w' => e = .returned (.bool (decide (1048576 < n))) ∧ w' = w := by
 go_enter Try.func4, Try.ntmps4
 go_wp2
 go_ret
 refine ⟨ret_bool ?_, rfl⟩
 congr 1
 apply propext
 omega
end Go.Proofs.Ytkoinmddcnnipaa
namespace Go.Proofs.Ytkoinmddcnnipaa
open Go Go.RowKit Go.Deep Go.Maps

section
variable {k : KerV} (ok : kerOk k = true)
include ok
theorem kr_rise : Rises (fun i => (k.O i).id) k.on := objsOk_rises (kerOk_parts ok).2.1
theorem under_len {u : Nat} (hu : u < k.on) : (underL k (k.O u).id).length = (preI (fun i => (k.O i).id) (fun i => (k.O i).up) k.on k.on u).length := by
  unfold underL
  rw [if_pos ok]
  have e : findI (fun i => (k.O i).id) k.on (k.O u).id = some u := findI_eq (kr_rise ok) hu
  rw [e]
  simp [sortL, List.length_mergeSort]
theorem under_mem {u : Nat} (hu : u < k.on) {x : Int} : x ∈ underL k (k.O u).id ↔ ∃ j, j < k.on ∧ (∃ m, parIt (fun i => (k.O i).id) (fun i => (k.O i).up) k.on m j = some u) ∧ (k.O j).id = x := by
  unfold underL
  rw [if_pos ok]
  have e : findI (fun i => (k.O i).id) k.on (k.O u).id = some u := findI_eq (kr_rise ok) hu
  rw [e]
  simp only [sortL_mem, List.mem_map]
  constructor
  · rintro ⟨j, hj, e⟩
    obtain ⟨h1, m, _, h2⟩ := (mem_pre (kr_rise ok) (ker_h0 ok) hu).1 hj
    exact ⟨j, h1, ⟨m, h2⟩, e⟩
  · rintro ⟨j, h1, ⟨m, h2⟩, e⟩
    exact ⟨j, (mem_pre (kr_rise ok) (ker_h0 ok) hu).2 ⟨h1, m, height (ker_noCyc ok hu) h1 h2, h2⟩, e⟩
theorem pre_kid {u c : Nat} (hu : u < k.on) (hc : c < k.on) (hp : par (fun i => (k.O i).id) (fun i => (k.O i).up) k.on c = some u) {f : Nat} (hf : k.on = f + 1) :
    (preI (fun i => (k.O i).id) (fun i => (k.O i).up) k.on f c).length = (preI (fun i => (k.O i).id) (fun i => (k.O i).up) k.on k.on c).length := by
  refine List.Perm.length_eq ?_
  refine (List.perm_ext_iff_of_nodup (nodup_pre (kr_rise ok) (ker_h0 ok) hc (ker_noCyc ok hc)) (nodup_pre (kr_rise ok) (ker_h0 ok) hc (ker_noCyc ok hc))).2 fun j => ?_
  rw [mem_pre (kr_rise ok) (ker_h0 ok) hc, mem_pre (kr_rise ok) (ker_h0 ok) hc]
  constructor
  · rintro ⟨h1, m, hm, h2⟩
    exact ⟨h1, m, by omega, h2⟩
  · rintro ⟨h1, m, hm, h2⟩
    have e : parIt (fun i => (k.O i).id) (fun i => (k.O i).up) k.on (m + 1) j = some u := by
      rw [parIt_succ', h2]
      exact hp
    have := height (ker_noCyc ok hu) h1 e
    exact ⟨h1, m, by omega, h2⟩
def sumU (k : KerV) (L : List Int) : Nat := (L.map (fun c => (underL k c).length)).sum
theorem under_sum {u : Nat} (hu : u < k.on) : (underL k (k.O u).id).length = 1 + sumU k (kidsL k (k.O u).id) := by
  obtain ⟨f, hf⟩ : ∃ f, k.on = f + 1 := ⟨k.on - 1, by omega⟩
  have e : findI (fun i => (k.O i).id) k.on (k.O u).id = some u := findI_eq (kr_rise ok) hu
  have ek : kidsL k (k.O u).id = (kidsI (fun i => (k.O i).id) (fun i => (k.O i).up) k.on u).map (fun i => (k.O i).id) := by
    unfold kidsL
    rw [if_pos ok, e]
    rfl
  rw [under_len ok hu, ek]
  unfold sumU
  rw [List.map_map]
  have ep : preI (fun i => (k.O i).id) (fun i => (k.O i).up) k.on k.on u = u :: (kidsI (fun i => (k.O i).id) (fun i => (k.O i).up) k.on u).flatMap (preI (fun i => (k.O i).id) (fun i => (k.O i).up) k.on f) := by
    conv => lhs; rw [show preI (fun i => (k.O i).id) (fun i => (k.O i).up) k.on k.on u = preI (fun i => (k.O i).id) (fun i => (k.O i).up) k.on (f + 1) u from by rw [← hf]]
    rfl
  rw [ep, List.length_cons, List.length_flatMap, Nat.add_comm]
  congr 1
  congr 1
  refine List.map_congr_left fun c hc => ?_
  obtain ⟨c1, c2⟩ := (mem_kids (kr_rise ok) (ker_h0 ok) hu).1 hc
  show (preI _ _ k.on f c).length = (underL k (k.O c).id).length
  rw [under_len ok c1, pre_kid ok hu c1 c2 hf]
theorem kid_obj {u : Nat} (hu : u < k.on) {x : Int} (hx : x ∈ kidsL k (k.O u).id) : ∃ j, objL k x = some j ∧ (k.O j).up = (k.O u).id ∧ j < k.on ∧ x = (k.O j).id ∧ par (fun i => (k.O i).id) (fun i => (k.O i).up) k.on j = some u := by
  have e : findI (fun i => (k.O i).id) k.on (k.O u).id = some u := findI_eq (kr_rise ok) hu
  have ek : kidsL k (k.O u).id = (kidsI (fun i => (k.O i).id) (fun i => (k.O i).up) k.on u).map (fun i => (k.O i).id) := by
    unfold kidsL
    rw [if_pos ok, e]
    rfl
  rw [ek] at hx
  obtain ⟨j, hj, ej⟩ := List.mem_map.1 hx
  obtain ⟨c1, c2⟩ := (mem_kids (kr_rise ok) (ker_h0 ok) hu).1 hj
  refine ⟨j, ?_, ?_, c1, ej.symm, c2⟩
  · unfold objL
    rw [if_pos ok, ← ej]
    exact findI_eq (kr_rise ok) c1
  · have := (List.mem_filter.1 hj).2
    simpa using this
theorem kid_below {u : Nat} (hu : u < k.on) {x y : Int} (hx : x ∈ kidsL k (k.O u).id) (hy : y ∈ underL k x) : y ∈ underL k (k.O u).id := by
  obtain ⟨j, _, _, hj, rfl, hp⟩ := kid_obj ok hu hx
  obtain ⟨i, hi, ⟨m, hm⟩, e⟩ := (under_mem ok hj).1 hy
  refine (under_mem ok hu).2 ⟨i, hi, ⟨m + 1, ?_⟩, e⟩
  rw [parIt_succ', hm]
  exact hp
theorem self_under {u : Nat} (hu : u < k.on) : (k.O u).id ∈ underL k (k.O u).id := (under_mem ok hu).2 ⟨u, hu, ⟨0, rfl⟩, rfl⟩
theorem root_under : (underL k 1).length = k.on := by
  have h := kerOk_iff.1 ok
  have r := h.root
  unfold rootB at r
  simp only [Bool.and_eq_true, beq_iff_eq] at r
  have h0 : 0 < k.on := h.lo
  have e := under_len ok h0
  rw [r.1.1] at e
  rw [e]
  exact (pre_full (kr_rise ok) (ker_h0 ok) h0).2 (kerOk_parts ok).2.2.2.2
end
theorem under_some {k : KerV} {x : Int} (h : underL k x ≠ []) : kerOk k = true ∧ ∃ u, u < k.on ∧ x = (k.O u).id := by
  unfold underL at h
  by_cases ok : kerOk k = true
  · rw [if_pos ok] at h
    cases e : findI (fun i => (k.O i).id) k.on x with
    | none => rw [e] at h; exact absurd rfl h
    | some u =>
      obtain ⟨h1, h2⟩ := findI_some e
      exact ⟨ok, u, h1, h2.symm⟩
  · rw [if_neg ok] at h
    exact absurd rfl h
end Go.Proofs.Ytkoinmddcnnipaa
