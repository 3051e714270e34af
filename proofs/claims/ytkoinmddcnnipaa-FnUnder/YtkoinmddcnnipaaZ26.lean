/- Contracts of the library at this program, laid in plain words: slices.Sort. -/
import Derived.Test.YtkoinmddcnnipaaProg
import Derived.Shelf.SortM.Plain
import Derived.Shelf.SortM.SortNone
import Derived.Ground.SlgmProg
import Derived.Test.YtkoinmddcnnipaaZ8
import Derived.Sort.OwnSortedInts
import Derived.Test.YtkoinmddcnnipaaZ11
namespace Go.Proofs.Ytkoinmddcnnipaa
open Go.Shelf
def Try.sortA_ren : Go.Shelf.Ren := ⟨fun | 5 => 30 | 8 => 48 | 7 => 47 | 19 => 73 | 20 => 74 | 10 => 64 | 11 => 65 | 12 => 66 | 13 => 67 | 14 => 68 | 15 => 69 | 16 => 70 | 17 => 71 | 18 => 72 | 30 => 84 | 31 => 85 | 32 => 86 | 33 => 87 | 34 => 88 | 35 => 89 | 40 => 101 | n => n, fun | 23 => 30 | 25 => 2 | 3 => 3 | 32 => 84 | 22 => 30 | 0 => 0 | 44 => 107 | 46 => 109 | 4 => 4 | 36 => 99 | 35 => 98 | 41 => 104 | 5 => 5 | 9 => 9 | 53 => 115 | 57 => 118 | 63 => 126 | 64 => 127 | n => n, fun | n => n⟩
theorem Try.sortA : Go.Proofs.SlLaysM.n5 Try.prog Try.sortA_ren := {
  mixed := by kernel_rfl
  f5 := ⟨Try.f30.name, by decide, Try.func30.trans (congrArg some (by kernel_rfl))⟩
  f7 := ⟨Try.f47.name, by decide, Try.func47.trans (congrArg some (by kernel_rfl))⟩
  f8 := Try.func48.trans (congrArg some (by kernel_rfl))
  f10 := ⟨Try.f64.name, by decide, Try.func64.trans (congrArg some (by kernel_rfl))⟩
  f11 := ⟨Try.f65.name, by decide, Try.func65.trans (congrArg some (by kernel_rfl))⟩
  f12 := ⟨Try.f66.name, by decide, Try.func66.trans (congrArg some (by kernel_rfl))⟩
  f13 := ⟨Try.f67.name, by decide, Try.func67.trans (congrArg some (by kernel_rfl))⟩
  f14 := ⟨Try.f68.name, by decide, Try.func68.trans (congrArg some (by kernel_rfl))⟩
  f15 := ⟨Try.f69.name, by decide, Try.func69.trans (congrArg some (by kernel_rfl))⟩
  f16 := ⟨Try.f70.name, by decide, Try.func70.trans (congrArg some (by kernel_rfl))⟩
  f17 := ⟨Try.f71.name, by decide, Try.func71.trans (congrArg some (by kernel_rfl))⟩
  f18 := ⟨Try.f72.name, by decide, Try.func72.trans (congrArg some (by kernel_rfl))⟩
  f19 := Try.func73.trans (congrArg some (by kernel_rfl))
  f20 := Try.func74.trans (congrArg some (by kernel_rfl))
  f30 := ⟨Try.f84.name, by decide, Try.func84.trans (congrArg some (by kernel_rfl))⟩
  f31 := Try.func85.trans (congrArg some (by kernel_rfl))
  f32 := Try.func86.trans (congrArg some (by kernel_rfl))
  f33 := ⟨Try.f87.name, by decide, Try.func87.trans (congrArg some (by kernel_rfl))⟩
  f34 := ⟨Try.f88.name, by decide, Try.func88.trans (congrArg some (by kernel_rfl))⟩
  f35 := ⟨Try.f89.name, by decide, Try.func89.trans (congrArg some (by kernel_rfl))⟩
  f40 := ⟨Try.f101.name, by decide, Try.func101.trans (congrArg some (by kernel_rfl))⟩
  t0 := Try.underlying0
  a0 := Try.isAgg0
  z0 := Try.sizeOf0
  v0 := Try.zeroValue0
  t3 := Try.underlying3
  a3 := Try.isAgg3
  z3 := Try.sizeOf3
  v3 := Try.zeroValue3
  t4 := Try.underlying4
  a4 := Try.isAgg4
  z4 := Try.sizeOf4
  v4 := Try.zeroValue4
  t5 := Try.underlying5
  a5 := Try.isAgg5
  z5 := Try.sizeOf5
  v5 := Try.zeroValue5
  t9 := Try.underlying9
  a9 := Try.isAgg9
  z9 := Try.sizeOf9
  v9 := Try.zeroValue9
  t22 := Try.underlying30
  a22 := Try.isAgg30
  z22 := Try.sizeOf30
  v22 := Try.zeroValue30
  t23 := Try.underlying30
  a23 := Try.isAgg30
  z23 := Try.sizeOf30
  v23 := Try.zeroValue30
  t25 := Try.underlying2
  a25 := Try.isAgg2
  z25 := Try.sizeOf2
  v25 := Try.zeroValue2
  t32 := Try.underlying84
  a32 := Try.isAgg84
  z32 := Try.sizeOf84
  v32 := Try.zeroValue84
  t35 := Try.underlying98
  a35 := Try.isAgg98
  z35 := Try.sizeOf98
  v35 := Try.zeroValue98
  t36 := Try.underlying99
  a36 := Try.isAgg99
  z36 := Try.sizeOf99
  v36 := Try.zeroValue99
  t41 := Try.underlying104
  a41 := Try.isAgg104
  z41 := Try.sizeOf104
  v41 := Try.zeroValue104
  t44 := Try.underlying107
  a44 := Try.isAgg107
  z44 := Try.sizeOf107
  v44 := Try.zeroValue107
  t46 := Try.underlying109
  a46 := Try.isAgg109
  z46 := Try.sizeOf109
  v46 := Try.zeroValue109
  t53 := Try.underlying115
  a53 := Try.isAgg115
  z53 := Try.sizeOf115
  v53 := Try.zeroValue115
  t57 := Try.underlying118
  a57 := Try.isAgg118
  z57 := Try.sizeOf118
  v57 := Try.zeroValue118
  t63 := Try.underlying126
  a63 := Try.isAgg126
  z63 := Try.sizeOf126
  v63 := Try.zeroValue126
  t64 := Try.underlying127
  a64 := Try.isAgg127
  z64 := Try.sizeOf127
  v64 := Try.zeroValue127 }
end Go.Proofs.Ytkoinmddcnnipaa
namespace Go.Proofs.Ytkoinmddcnnipaa
open Go Go.RowKit Go.Deep Go.Maps Go.Sort Go.Shelf

def sortL (l : List Int) : List Int := l.mergeSort (fun x y => decide (x ≤ y))
theorem sortL_len (l : List Int) : (sortL l).length = l.length := by simp [sortL]

theorem sort_own (B : Nat) (v : Value) (l : List Int) (w : World) (h : OwnI w B v l) (hl : l.length ≤ 100000) :
    Calls Try.prog 30 #[v] w fun e w' => e = .returned (.tuple #[]) ∧ OwnI w' B v (sortL l) ∧ w.grownBy w' v.ownBlock := by
  rcases h.2 with ⟨rfl, hn⟩ | ⟨g, cap, cur, rfl, hB, hb, h1, h2, h3, h4⟩
  · have e0 : l = [] := List.eq_nil_of_length_eq_zero hn
    subst e0
    refine (AnyM.slices_Sort_int_none Try.sortA none 0 w).mono ?_
    rintro e w' ⟨rfl, rfl⟩
    have e0 : sortL [] = [] := by simp [sortL]
    rw [e0]
    exact ⟨rfl, h, ⟨rfl, rfl, rfl, Nat.le_refl _, fun _ _ _ => rfl⟩⟩
  · have hlt : g < w.heap.size := (Array.getElem?_eq_some_iff.1 hb).1
    refine (AnyM.slices_Sort_int Try.sortA g 0 cap l w (holds_of_blockI hb (by simpa using h4)) hlt (by omega)).mono ?_
    rintro e w' ⟨rfl, n, os, rfl⟩
    refine ⟨rfl, ?_, grownBy_sortedI _⟩
    have := ownsRow_sortedI (n := n) (os := os) (ts := sortL l) (sortL_len l) hB hb h1 h2 h3
    unfold OwnI
    rw [sortL_len]
    exact this

theorem Walk.sorted {w0 w w' : World} {c : Nat} {v : Value} {l l' : List Int} (h : Walk w0 c w v l) (ho : OwnI w' (w0.heap.size + 1 + 1 + 1) v l') (hg : w.grownBy w' v.ownBlock) : Walk w0 c w' v l' := by
  have hne : ∀ k, k < w0.heap.size + 1 + 1 + 1 → some k ≠ v.ownBlock := fun k hk e => by have := (World.ownsRow.lt h.o k e.symm).1; omega
  exact ⟨h.b.trans (below_grown hg h.b.size (fun j hj => by have := (World.ownsRow.lt h.o j hj).1; omega)), h.q.grown hg (hne _ (by omega)), h.p.grown hg (hne _ (by omega)), h.r.grown hg (hne _ (by omega)), ho⟩
theorem OwnI.low {w : World} {B B' : Nat} {v : Value} {l : List Int} (h : OwnI w B v l) (hB : B' ≤ B) : OwnI w B' v l := by
  refine ⟨h.1, ?_⟩
  rcases h.2 with hn | ⟨g, cap, cur, hv, hb, rest⟩
  · exact .inl hn
  · exact .inr ⟨g, cap, cur, hv, by omega, rest⟩

set_option maxRecDepth 100000 in
set_option maxHeartbeats 4000000 in
theorem below_none (c n : Nat) (m : Int → Option Nat) (x : Int) (w : World) (hM : MapP w c n m) (hx : (Lit.int .i64 x).wf = true) (hm : m x = none) :
    Calls Try.prog 15 #[.map (some c), .int .i64 x] w fun e w' => e = .returned (.slice none 0 0) ∧ Below w.heap.size w w' := by
  have b1 : Below w.heap.size w (w.alloc (.cells #[.map (some c)] 44)) := (Below.refl _ w).alloc (Nat.le_refl _) _
  have LK := (hM.below b1).look hx
  rw [hm] at LK
  simp only [Option.map_none] at LK
  clear hM
  go_enter Try.func15, Try.ntmps15
  go_wp2
  go_ret
  exact ⟨rfl, b1⟩

set_option maxRecDepth 100000 in
set_option maxHeartbeats 4000000 in
theorem below_any (w : World) (B c n : Nat) (ids ups : Nat → Int) (ob off : Nat) (nb : Nat → Nat) (kv : Nat → Value) (hN : Nodes w B c n ids ob off nb kv (kidsTo ids ups n)) (hr : Rises ids n) (h0 : ∀ j, j < n → ids j ≠ ups 0)
    (hw : ∀ i, i < n → (Lit.int .i64 (ids i)).wf = true) (hn : n ≤ 271) (i : Nat) (hi : i < n) (hc : NoCyc ids ups n i) :
    Calls Try.prog 15 #[.map (some c), .int .i64 (ids i)] w fun e w' => ∃ v, e = .returned v ∧ OwnI w' w.heap.size v (sortL ((preI ids ups n n i).map ids)) ∧ Below w.heap.size w w' := by
  have hst := fun (W : World) (a : Addr) (x y : Array Value) (m : Mode) => run_store Try.prog W a (.func (.func 29) x y) m rfl
  have b1 : Below w.heap.size w (w.alloc (.cells #[.map (some c)] 44)) := (Below.refl _ w).alloc (Nat.le_refl _) _
  have LK := (hN.map.below b1).look (hw i hi)
  rw [findI_eq hr hi] at LK
  simp only [Option.map_some] at LK
  have hlen : (preI ids ups n n i).length ≤ n := nodup_len (nodup_pre hr h0 hi hc) (fun x hx => ((mem_pre hr h0 hi).1 hx).1)
  have W0 : Walk w c (((w.alloc (.cells #[.map (some c)] 44)).alloc (.cells #[.slice none 0 0] 30)).alloc (.cells #[walkFn w.heap.size] 58)) (.slice none 0 0) [] := by
    refine ⟨?_, ?_, ?_, ?_, OwnI.nil _ _⟩
    · exact (b1.alloc b1.size _).alloc (b1.alloc b1.size _).size _
    · exact ((Blk.new w _).alloc _).alloc _
    · have := (Blk.new (w.alloc (.cells #[.map (some c)] 44)) (.cells #[.slice none 0 0] 30)).alloc (.cells #[walkFn w.heap.size] 58)
      simpa using this
    · have := Blk.new ((w.alloc (.cells #[.map (some c)] 44)).alloc (.cells #[.slice none 0 0] 30)) (.cells #[walkFn w.heap.size] 58)
      simpa using this
  have C1 := hid (walk_any w B c n ids ups ob off nb kv hN hr h0 hw hn n i [] (.slice none 0 0) _ hi (fun j m hj e => height hc hj e) (by simp; omega) W0)
  unfold walkFn at C1
  simp only [List.nil_append] at C1
  clear W0 hN h0 hw hr
  go_enter Try.func15, Try.ntmps15
  go_wp2_with fail
  refine C1.out.mono ?_
  rintro e w2 ⟨v2, rfl, h2⟩
  have H2 := hid h2
  have x1 : _ = some v2 := h2.p.c0 0 rfl
  have C2 := hid (sort_own _ v2 _ w2 h2.o (by rw [List.length_map]; omega))
  clear h2 C1 LK
  go_wp2_with fail
  refine C2.out.mono ?_
  rintro e w3 ⟨rfl, o3, g3⟩
  have H3 := hid (H2.out.sorted o3 g3)
  have x3 : _ = some v2 := H3.out.p.c0 0 rfl
  clear o3 g3 x1 C2 H2
  go_wp2
  go_ret
  exact ⟨v2, rfl, H3.out.o.low (by omega), H3.out.b⟩
end Go.Proofs.Ytkoinmddcnnipaa
namespace Go.Proofs.Ytkoinmddcnnipaa
open Go Go.RowKit Go.Deep Go.Maps

theorem reach_len' {n : Nat} {O : Nat → ObjV} (h : objsOk n O = true) : ((((sortL ((preI (fun i => (O i).id) (fun i => (O i).up) n n 0).map (fun i => (O i).id))).length : Nat) : Int) == (n : Int)) = reachB (fun i => (O i).id) (fun i => (O i).up) n := by
  rw [sortL_len, List.length_map]
  obtain ⟨h1, _⟩ := objsOk_out h
  have hp := pre_full (objsOk_rises h) (ups := fun i => (O i).up) (fun j hj => by have := objsOk_pos h j hj; have := (objsOk_root h).2.2; omega) (by omega)
  rw [Bool.eq_iff_iff, ← hp]
  simp only [beq_iff_eq]
  omega

theorem reach_len {n : Nat} {O : Nat → ObjV} (h : objsOk n O = true) : ∃ L : Nat, (sortL ((preI (fun i => (O i).id) (fun i => (O i).up) n n 0).map (fun i => (O i).id))).length = L ∧ L ≤ 271 ∧ ((L : Int) == (n : Int)) = reachB (fun i => (O i).id) (fun i => (O i).up) n := by
  refine ⟨_, rfl, ?_, reach_len' h⟩
  rw [sortL_len, List.length_map]
  obtain ⟨h1, h2, _⟩ := objsOk_out h
  have := nodup_len (nodup_pre (objsOk_rises h) (ups := fun i => (O i).up) (fun j hj => by have := objsOk_pos h j hj; have := (objsOk_root h).2.2; omega) (f := n) (i := 0) (by omega) noCyc_zero) (fun x hx => ((mem_pre (objsOk_rises h) (ups := fun i => (O i).up) (fun j hj => by have := objsOk_pos h j hj; have := (objsOk_root h).2.2; omega) (by omega)).1 hx).1)
  omega

set_option maxRecDepth 100000 in
set_option maxHeartbeats 4000000 in
theorem boxesOk_any (a : Option Addr) (n cap : Nat) (O : Nat → ObjV) (w : World) (hcap : n ≤ cap) (hO : ObjsAt w a n O) (h2 : objsOk n O = true) (hw : ∀ i, i < n → (Lit.int .i64 (O i).id).wf = true ∧ (Lit.int .i64 (O i).up).wf = true) :
    Calls Try.prog 28 #[.slice a n cap] w fun e w' => e = .returned (.bool (upsOk n O && reachB (fun i => (O i).id) (fun i => (O i).up) n)) ∧ Below w.heap.size w w' := by
  obtain ⟨on1, on2, _, _⟩ := objsOk_out h2
  have HO := hid hO
  obtain ⟨ob, off, rfl, _, _⟩ := hO (by omega)
  have HW := hid hw
  have H2 := hid h2
  obtain ⟨L, eL, hL, rL⟩ := reach_len h2
  have EL := hid eL
  have RL := hid rL
  clear eL rL
  clear hO h2 hw
  have C1 := hid (nodesOf_any ob off n cap O w on2 HO.out (objsOk_rises H2.out) HW.out)
  go_enter Try.func28, Try.ntmps28
  go_wp2_with fail
  refine C1.out.mono ?_
  rintro e w1 ⟨c, nb, kv, rfl, hN, b1⟩
  have HN := hid hN
  clear hN C1
  have END : Hid (∀ wr : World, Below w1.heap.size w1 wr → Calls Try.prog 15 #[.map (some c), .int .i64 1] wr fun e w' => ∃ a2 k2, e = .returned (.slice a2 L k2) ∧ Below wr.heap.size wr w') := hid (fun wr hb => by
    have := below_any wr w.heap.size c n (fun i => (O i).id) (fun i => (O i).up) ob off nb kv (HN.out.below hb) (objsOk_rises H2.out) (fun j hj => by have := objsOk_pos H2.out j hj; have := (objsOk_root H2.out).2.2; omega) (fun i hi => (HW.out i hi).1) on2 0 (by omega) noCyc_zero
    rw [(objsOk_root H2.out).1] at this
    refine this.mono ?_
    rintro e w' ⟨v, rfl, o, b⟩
    obtain ⟨a2, k2, rfl⟩ := ownsRow_shape o
    rw [EL.out]
    exact ⟨a2, k2, rfl, b⟩)
  have c1 : (n : Int) ≤ (cap : Int) := by omega
  have c2 : (1 : Int) ≤ (n : Int) := by omega
  by_cases hok : cap = 1
  · obtain rfl : n = 1 := by omega
    subst hok
    go_wp2
    go_loopw [12] (fun i wr => i = .int .i64 0 ∧ Below w1.heap.size w1 wr) (fun i _ => 0)
    case atStart => exact ⟨rfl, Below.refl _ _⟩
    case round =>
      obtain ⟨rfl, hB⟩ := hrel
      go_wp2_with fail
      refine (END.out wr hB).mono ?_
      rintro e w2 ⟨a2, k2, rfl, b2⟩
      go_wp2
      go_ret
      refine ⟨ret_bool ?_, then_ b1 (then_ hB b2)⟩
      rw [← RL.out]
      simp [upsOk]
  · go_wp2
    go_loopw [12] (fun i wr => ∃ q : Nat, q ≤ n - 1 ∧ i = .int .i64 q ∧ Hid (∀ p, p < q → boxAt n O (O (p + 1)).up = true) ∧ Below w1.heap.size w1 wr) (fun i _ => n - 1 - (intOf i).toNat)
    case atStart => exact ⟨0, Nat.zero_le _, rfl, hid (fun p hp => by omega), Below.refl _ _⟩
    case round =>
      obtain ⟨q, hq, rfl, HA, hB⟩ := hrel
      by_cases hlt2 : q < n - 1
      · obtain ⟨_, _, ea, hlt0, hcc⟩ := (HO.out.below b1).below hB (by omega)
        cases ea
        obtain ⟨⟨q0, q1, q2, q3, q4, q5, q6, q7, q8, q9⟩, ht⟩ := hcc (q + 1) (by omega)
        have ei : off + (q + 1) * 10 = off + 10 + q * 10 := by omega
        rw [ei] at q0 q1 q2 q3 q4 q5 q6 q7 q8 q9
        have i2 : (q : Int) < ((n - 1 : Nat) : Int) := by omega
        simp only [CatL.val, IntL.val, StrL.val] at q4 q6 q7 q9
        have bC : Below wr.heap.size wr (wr.alloc (.cells #[.int .i64 (O (q + 1)).id, .int .i64 (O (q + 1)).kind, .int .i64 (O (q + 1)).up, .int .i64 (O (q + 1)).b1, .slice (O (q + 1)).c1.a (O (q + 1)).c1.n (O (q + 1)).c1.k, .string (O (q + 1)).data, .slice (O (q + 1)).items.a (O (q + 1)).items.n (O (q + 1)).items.k, .slice (O (q + 1)).own.a (O (q + 1)).own.n (O (q + 1)).own.k, .int .i64 (O (q + 1)).b2, .slice (O (q + 1)).c2.a (O (q + 1)).c2.n (O (q + 1)).c2.k] 38)) := (Below.refl _ wr).alloc (Nat.le_refl _) _
        have BC := then_ hB bC
        have N1 := hid (HN.out.below BC)
        have LK := N1.out.map.look (x := (O (q + 1)).up) (HW.out (q + 1) (by omega)).2
        cases hf : findI (fun i => (O i).id) n (O (q + 1)).up with
        | none =>
          have BO : Hid (boxAt n O (O (q + 1)).up = false) := hid (by simp [boxAt, hf])
          rw [hf] at LK
          simp only [Option.map_none] at LK
          clear hcc ht ei hf
          go_wp2
          go_ret
          exact ⟨ret_bool (by rw [upsOk, all_at hlt2 BO.out]; rfl), then_ b1 BC⟩
        | some u =>
          obtain ⟨hu, _⟩ := findI_some hf
          have BO : Hid (boxAt n O (O (q + 1)).up = ((O u).kind == 3)) := hid (by simp [boxAt, hf])
          rw [hf] at LK
          simp only [Option.map_some] at LK
          have k1 := (hcc u hu).1.c1
          have k2 := (bC.cell (p := ⟨ob, off + u * 10 + 1, none⟩) hlt0).trans k1
          have n1 : _ = some (Value.pointer (some ⟨ob, off + u * 10, none⟩)) := (N1.out.blk u hu).c0 0 rfl
          clear hcc ht ei hf k1
          cases c3 : ((O u).kind == 3) with
          | false =>
            rw [c3] at BO
            have c3' : ¬ (O u).kind = 3 := by simpa using c3
            go_wp2
            go_ret
            exact ⟨ret_bool (by rw [upsOk, all_at hlt2 BO.out]; rfl), then_ b1 BC⟩
          | true =>
            rw [c3] at BO
            have c3' : (O u).kind = 3 := by simpa using c3
            rw [c3'] at k2
            clear c3
            go_wp2
            refine ⟨⟨q + 1, by omega, by go_num, hid (fun p hp => ?_), BC⟩, by simp [intOf]; omega⟩
            by_cases e : p = q
            · subst e; exact BO.out
            · exact HA.out p (by omega)
      · have e : q = n - 1 := by omega
        subst e
        go_wp2_with fail
        refine (END.out wr hB).mono ?_
        rintro e w2 ⟨a2, k2, rfl, b2⟩
        go_wp2
        go_ret
        refine ⟨ret_bool ?_, then_ b1 (then_ hB b2)⟩
        rw [upsOk, all_yes HA.out, Bool.true_and, ← RL.out]
end Go.Proofs.Ytkoinmddcnnipaa
namespace Go.Proofs.Ytkoinmddcnnipaa
open Go Go.RowKit Go.Deep Go.Maps

set_option maxRecDepth 100000 in
set_option maxHeartbeats 4000000 in
theorem implKer_any (k : KerV) (w : World) (hk : k.at w) (hcap : k.on ≤ k.ok) (hw : ∀ i, i < k.on → (Lit.int .i64 (k.O i).id).wf = true ∧ (Lit.int .i64 (k.O i).up).wf = true) :
    Calls Try.prog 14 #[k.val] w fun e w' => e = .returned (.bool (kerOk k)) ∧ Below w.heap.size w w' := by
  have hb0 := (Below.refl _ w).alloc (Nat.le_refl _) (.cells #[.slice k.ta k.tn k.tk, .slice k.oa k.on k.ok] 27)
  have A0 := Blk.new w (.cells #[.slice k.ta k.tn k.tk, .slice k.oa k.on k.ok] 27)
  have T0 := hid (hk.below hb0)
  have HW := hid hw
  have HC := hid hcap
  unfold KerV.val
  obtain ⟨x0, x1⟩ := A0.two
  clear hk hw hcap
  go_enter Try.func14, Try.ntmps14
  go_wp2_with fail
  refine (threadsOk_any _ _ _ k.T _ T0.out.1 T0.out.2.2.1).mono ?_
  rintro e w1 ⟨rfl, hb1⟩
  have A1 := A0.below hb1
  have T1 := hid (T0.out.below hb1)
  have B1 := then_ hb0 hb1
  clear x0 x1 A0 T0 hb0 hb1
  obtain ⟨x0, x1⟩ := A1.two
  cases t1 : thrsOk k.tn k.T with
  | false =>
    go_wp2
    go_ret
    exact ⟨ret_bool (kerOk_thr t1).symm, B1⟩
  | true =>
  go_wp2_with fail
  refine (objectsOk_any _ _ _ k.O _ T1.out.2.1 T1.out.2.2.2).mono ?_
  rintro e w2 ⟨rfl, hb2⟩
  have A2 := A1.below hb2
  have T2 := hid (T1.out.below hb2)
  have B2 := then_ B1 hb2
  clear x0 x1 A1 T1 B1 hb2
  obtain ⟨x0, x1⟩ := A2.two
  cases t2 : objsOk k.on k.O with
  | false =>
    go_wp2
    go_ret
    exact ⟨ret_bool (by simp [kerOk, t2]), B2⟩
  | true =>
  have C3 := hid (numbersOk_any k w2 T2.out HC.out t1 t2 (fun i hi => (HW.out i hi).1))
  unfold KerV.val at C3
  go_wp2_with fail
  refine C3.out.mono ?_
  rintro e w3 ⟨rfl, hb3⟩
  have A3 := A2.below hb3
  have T3 := hid (T2.out.below hb3)
  have B3 := then_ B2 hb3
  clear x0 x1 A2 T2 B2 hb3 C3
  obtain ⟨x0, x1⟩ := A3.two
  cases t3 : numsOk k.tn k.T k.on k.O with
  | false =>
    go_wp2
    go_ret
    exact ⟨ret_bool (by simp [kerOk, t3]), B3⟩
  | true =>
  have C4 := hid (boxesOk_any k.oa k.on k.ok k.O w3 HC.out T3.out.2.2.2 t2 HW.out)
  have OK : Hid (kerOk k = (upsOk k.on k.O && reachB (fun i => (k.O i).id) (fun i => (k.O i).up) k.on)) := hid (by simp [kerOk, t1, t2, t3])
  clear t1 t2 t3
  go_wp2_with fail
  refine C4.out.mono ?_
  rintro e w4 ⟨rfl, hb4⟩
  have B4 := then_ B3 hb4
  rw [← OK.out]
  clear x0 x1 A3 T3 B3 hb4 C4
  go_wp2
  go_ret
  exact ⟨rfl, B4⟩
end Go.Proofs.Ytkoinmddcnnipaa
