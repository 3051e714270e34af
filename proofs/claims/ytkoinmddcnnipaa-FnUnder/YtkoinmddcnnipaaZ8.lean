/- The program's nodes: nodesOf makes them. -/
import Derived.Test.YtkoinmddcnnipaaZ7
import Derived.Test.YtkoinmddcnnipaaZ4
import Derived.Test.YtkoinmddcnnipaaZ5
namespace Go.Proofs.Ytkoinmddcnnipaa
open Go Go.RowKit Go.Deep Go.Maps

def kidsTo (ids ups : Nat → Int) (q i : Nat) : List Int := ((List.range q).filter (fun j => ups j == ids i)).map ids
theorem kidsTo_yes {ids ups : Nat → Int} {q i : Nat} (h : ups q = ids i) : kidsTo ids ups (q + 1) i = kidsTo ids ups q i ++ [ids q] := by
  simp [kidsTo, List.range_succ, h]
theorem kidsTo_no {ids ups : Nat → Int} {q i : Nat} (h : ups q ≠ ids i) : kidsTo ids ups (q + 1) i = kidsTo ids ups q i := by
  simp [kidsTo, List.range_succ, h]
theorem kidsTo_len (ids ups : Nat → Int) (q i : Nat) : (kidsTo ids ups q i).length ≤ q := by
  unfold kidsTo
  rw [List.length_map]
  exact Nat.le_trans (List.length_filter_le _ _) (by simp)

theorem MapP.update {w : World} {b n : Nat} {m : Int → Option Nat} (h : MapP w b n m) (hn : n < maxLen) (kx : Int) (p : Nat) (wk : (Lit.int .i64 kx).wf = true) :
    ∃ w', (Instr.mapUpdate 44 (.map (some b)) (.int .i64 kx) (.pointer (some ⟨p, 0, none⟩))).run Try.prog w = .ok () w' ∧ MapP w' b (n + 1) (setP m kx p) ∧ w.grownBy w' (some b) := by
  obtain ⟨D, hown, hD, hall⟩ := h
  obtain ⟨w', hrun, r1, r2⟩ := hown.update keyed2 Try.underlying44 hn (keyOf_int_mk Try.underlying2 wk) (val := .pointer (some ⟨p, 0, none⟩)) (d := .lit (.int .i64 (p : Int))) (ps := []) rfl
  have hp := MapP.put (k := kx) (v := p) hD hall
  exact ⟨w', hrun, ⟨_, r1, hp.1, hp.2⟩, r2⟩
theorem below_drew {w w' : World} (h : Below w.heap.size w w') : Below w.heap.size w w'.drew := below_drewN h 1
theorem below_grown {B : Nat} {w w' : World} {row : Option Nat} (h : w.grownBy w' row) (hB : B ≤ w.heap.size) (hr : ∀ j, row = some j → B ≤ j) : Below B w w' :=
  ⟨h.os, h.tape, h.output, h.size, fun k hk => h.block k (by omega) (fun e => by have := hr k e.symm; omega)⟩
theorem step_append_int {ops : Array Oper} {o : Oper} {a : Act} {w : World} {K : Act → World → Prop} {Q : Exit → Act → World → Prop} {E : Prop} (hgd : o.guard = none) (s x : Operand)
    (ho : o.op = .call { callee := .builtin .append, args := #[s, x], argTypes := #[30, 30] })
    (B : Nat) (v : Value) (l : List Int) (hs : a.eval s = v) (hown : OwnI w B v l) (ad : Option Addr) (c : Nat) (r : Int) (hx : a.eval x = .slice ad 1 c) (hc : NumL w ad [r])
    (hm : l.length ≤ 100000) (hB : B ≤ w.heap.size)
    (h : ∀ a' c' w', OwnI w' B (.slice a' (l.length + 1) c') (l ++ [r]) → w.grownBy w' v.ownBlock → ((Value.slice a' (l.length + 1) c').ownBlock = v.ownBlock ∨ (Value.slice a' (l.length + 1) c').ownBlock = some w.heap.size) → K (a.put o.dst (.slice a' (l.length + 1) c')) w') :
    if Region.wanted o (yielded ops a.tmps) = true then Oper.wp Try.prog o a w K Q else E := by
  have hw : Region.wanted o (yielded ops a.tmps) = true := by simp [Region.wanted, hgd]
  rw [if_pos hw]
  refine wp_append_gen Try.underlying30 Try.info2 rfl (by omega) w s x ho B v l.length _ hs hown ad 1 c [.int .i64 r] hx rfl hc (by simp [Value.oneCell']) (by omega) (by omega) hB fun a' c' w' h2 h3 h4 => ?_
  refine h a' c' w' ?_ h3 h4
  unfold OwnI
  rw [List.length_append, List.map_append]
  exact h2
theorem Nodes.same {w : World} {B c n : Nat} {ids : Nat → Int} {ob off : Nat} {nb : Nat → Nat} {kv : Nat → Value} {K K' : Nat → List Int} (h : Nodes w B c n ids ob off nb kv K) (e : ∀ i, i < n → K' i = K i) : Nodes w B c n ids ob off nb kv K' :=
  ⟨h.map, h.blk, h.inj, fun i hi => by rw [e i hi]; exact h.own i hi, h.apart, h.low, h.lowc⟩
theorem Nodes.grow {wr W w1 : World} {B c k : Nat} {ids : Nat → Int} {ob off : Nat} {nb : Nat → Nat} (H : Nodes wr B c k ids ob off nb (fun _ => .slice none 0 0) (fun _ => [])) (hr : Rises ids (k + 1)) (hb : Below wr.heap.size wr W)
    (hA : Blk W wr.heap.size (.cells #[.pointer (some ⟨ob, off + k * 10, none⟩), .slice none 0 0] 49)) (hM : MapP w1 c (k + 1) (setP (fun x => (findI ids k x).map nb) (ids k) wr.heap.size)) (hG : W.grownBy w1 (some c)) :
    Nodes w1 B c (k + 1) ids ob off (fun i => if i = k then wr.heap.size else nb i) (fun _ => .slice none 0 0) (fun _ => []) := by
  have hc : c < wr.heap.size := H.map.lt
  have cne : ∀ i, i < k → c ≠ nb i := fun i hi e => by
    obtain ⟨es, clock, hm⟩ := H.map.isMap
    have := H.blk i hi
    unfold Blk at this
    rw [← e, hm] at this
    cases this
  refine ⟨?_, fun i hi => ?_, fun i j hi hj => ?_, fun i hi => OwnI.nil _ _, fun i j _ _ _ => .inl rfl, fun i hi => ?_, H.lowc⟩
  · have e : (fun x => (findI ids (k + 1) x).map (fun i => if i = k then wr.heap.size else nb i)) = setP (fun x => (findI ids k x).map nb) (ids k) wr.heap.size := by
      funext x
      rw [findI_succ hr]
      unfold setP
      split
      · simp
      · cases e1 : findI ids k x with
        | none => simp [e1]
        | some j =>
          have := (findI_some e1).1
          simp only [Option.map_some, e1]
          rw [if_neg (by omega)]
    rw [e]; exact hM
  · by_cases e : i = k
    · subst e
      rw [if_pos rfl]
      exact (hG.block _ hA.lt (by simp; omega)).trans hA
    · rw [if_neg e]
      have h1 := (H.blk i (by omega)).below hb
      exact (hG.block _ h1.lt (by simp; exact fun e => cne i (by omega) e.symm)).trans h1
  · have lt : ∀ i, i < k → nb i < wr.heap.size := fun i hi => (H.blk i hi).lt
    by_cases e : i = k
    · by_cases e' : j = k
      · omega
      · rw [if_pos e, if_neg e']; have := lt j (by omega); omega
    · by_cases e' : j = k
      · rw [if_neg e, if_pos e']; have := lt i (by omega); omega
      · rw [if_neg e, if_neg e']; exact H.inj i j (by omega) (by omega)
  · split
    · have := H.lowc; omega
    · exact H.low i (by omega)

set_option maxRecDepth 100000 in
set_option maxHeartbeats 4000000 in
theorem nodesOf_any (ob off n cap : Nat) (O : Nat → ObjV) (w : World) (hn : n ≤ 271) (hO : ObjsAt w (some ⟨ob, off, none⟩) n O) (hr : Rises (fun i => (O i).id) n)
    (hw : ∀ i, i < n → (Lit.int .i64 (O i).id).wf = true ∧ (Lit.int .i64 (O i).up).wf = true) :
    Calls Try.prog 16 #[.slice (some ⟨ob, off, none⟩) n cap] w fun e w' => ∃ c nb kv, e = .returned (.map (some c)) ∧ Nodes w' w.heap.size c n (fun i => (O i).id) ob off nb kv (kidsTo (fun i => (O i).id) (fun i => (O i).up) n) ∧ Below w.heap.size w w' := by
  have hmm := @run_makeMap Try.prog
  have HO := hid hO
  have HR := hid hr
  have HW := hid hw
  clear hO hr hw
  have M0 := hid (MapP.made w)
  have hb0 := (Below.refl _ w).alloc (Nat.le_refl _) (.map #[] 0)
  go_enter Try.func16, Try.ntmps16
  go_wp2
  go_loopw [11] (fun i wr => ∃ (k : Nat) (nb : Nat → Nat), k ≤ n ∧ i = .int .i64 k ∧ Hid (Nodes wr w.heap.size w.heap.size k (fun i => (O i).id) ob off nb (fun _ => .slice none 0 0) (fun _ => [])) ∧ Below w.heap.size w wr) (fun i _ => n - (intOf i).toNat)
  case atStart =>
    refine ⟨0, fun _ => 0, Nat.zero_le _, rfl, hid ⟨?_, fun i hi => by omega, fun i j hi => by omega, fun i hi => by omega, fun i j hi => by omega, fun i hi => by omega, Nat.le_refl _⟩, hb0⟩
    exact M0.out
  case round =>
    obtain ⟨k, nb, hk, rfl, HN, hB⟩ := hrel
    clear M0 hb0 hmm
    by_cases hlt : k < n
    · obtain ⟨_, _, ea, hlt0, hcc⟩ := HO.out.below hB (by omega)
      cases ea
      have q0 := (hcc k hlt).1.c0
      have i1 : (k : Int) < (n : Int) := by omega
      have i0 : (0 : Int) ≤ (k : Int) := by omega
      have W0 := hid (HW.out k hlt).1
      clear hcc
      go_wp2
      have kn : k < maxLen := by unfold maxLen; omega
      have b1 : Below wr.heap.size wr ((wr.alloc (.cells #[.pointer (some ⟨ob, off + k * 10, none⟩), .slice none 0 0] 49)).drew) := below_drew ((Below.refl _ wr).alloc (Nat.le_refl _) _)
      have A1 : Blk ((wr.alloc (.cells #[.pointer (some ⟨ob, off + k * 10, none⟩), .slice none 0 0] 49)).drew) wr.heap.size (.cells #[.pointer (some ⟨ob, off + k * 10, none⟩), .slice none 0 0] 49) := Blk.new wr _
      obtain ⟨w1, hrun, hm1, hg1⟩ := (HN.out.map.below b1).update kn (O k).id wr.heap.size W0.out
      have HM := hid hm1
      have HG := hid hg1
      have HB := hid b1
      have HA := hid A1
      clear hm1 hg1 b1 A1
      go_region
      have NN := hid (HN.out.grow (HR.out.less (by omega)) HB.out HA.out HM.out HG.out)
      have B1 : Below w.heap.size w w1 := (then_ hB HB.out).trans (below_grown HG.out (then_ hB HB.out).size (fun j hj => by cases hj; exact Nat.le_refl _))
      clear HM HG HB HA hrun HN q0
      go_wp2
      exact ⟨⟨k + 1, _, by omega, by go_num, NN, B1⟩, by simp [intOf]; omega⟩
    · have e : k = n := by omega
      subst e
      have i1 : ¬ (k : Int) < (k : Int) := by omega
      go_wp2
      go_loopw [28] (fun i wr => ∃ (q : Nat) (kv : Nat → Value), q ≤ k ∧ i = .int .i64 q ∧ Hid (Nodes wr w.heap.size w.heap.size k (fun i => (O i).id) ob off nb kv (kidsTo (fun i => (O i).id) (fun i => (O i).up) q)) ∧ Below w.heap.size w wr) (fun i _ => k - (intOf i).toNat)
      case atStart => exact ⟨0, _, Nat.zero_le _, rfl, HN, hB⟩
      case round =>
        obtain ⟨q, kv, hq, rfl, HN, hB⟩ := hrel
        by_cases hlt : q < k
        · obtain ⟨_, _, ea, hlt0, hcc⟩ := HO.out.below hB (by omega)
          cases ea
          obtain ⟨q0, q1, q2, q3, q4, q5, q6, q7, q8, q9⟩ := (hcc q hlt).1
          simp only [CatL.val, IntL.val, StrL.val] at q4 q6 q7 q9
          have i1 : (q : Int) < (k : Int) := by omega
          have b1 : Below wr.heap.size wr (wr.alloc (.cells #[.int .i64 (O q).id, .int .i64 (O q).kind, .int .i64 (O q).up, .int .i64 (O q).b1, .slice (O q).c1.a (O q).c1.n (O q).c1.k, .string (O q).data, .slice (O q).items.a (O q).items.n (O q).items.k, .slice (O q).own.a (O q).own.n (O q).own.k, .int .i64 (O q).b2, .slice (O q).c2.a (O q).c2.n (O q).c2.k] 38)) := (Below.refl _ wr).alloc (Nat.le_refl _) _
          have A1 := Blk.new wr (.cells #[.int .i64 (O q).id, .int .i64 (O q).kind, .int .i64 (O q).up, .int .i64 (O q).b1, .slice (O q).c1.a (O q).c1.n (O q).c1.k, .string (O q).data, .slice (O q).items.a (O q).items.n (O q).items.k, .slice (O q).own.a (O q).own.n (O q).own.k, .int .i64 (O q).b2, .slice (O q).c2.a (O q).c2.n (O q).c2.k] 38)
          have x0 : _ = some (Value.int .i64 (O q).id) := A1.c0 0 rfl
          have x2 : _ = some (Value.int .i64 (O q).up) := A1.c0 2 rfl
          have N1 := hid (HN.out.below b1)
          have B1 := then_ hB b1
          have LK := N1.out.map.look (x := (O q).up) (HW.out q hlt).2
          clear hcc hlt0
          cases hf : findI (fun i => (O i).id) k (O q).up with
          | none =>
            have NK : Hid (∀ i, i < k → kidsTo (fun i => (O i).id) (fun i => (O i).up) (q + 1) i = kidsTo (fun i => (O i).id) (fun i => (O i).up) q i) := hid (fun i hi => kidsTo_no (fun e => findI_none hf i hi e.symm))
            simp only [hf, Option.map_none] at LK
            clear hf
            go_wp2
            exact ⟨⟨q + 1, kv, by omega, by go_num, hid (N1.out.same NK.out), B1⟩, by simp [intOf]; omega⟩
          | some u =>
            obtain ⟨hu, eu⟩ := findI_some hf
            have EU := hid eu
            simp only [hf, Option.map_some] at LK
            clear hf eu
            have A2 := N1.out.blk u hu
            have O2 := N1.out.own u hu
            have hlen := kidsTo_len (fun i => (O i).id) (fun i => (O i).up) q u
            go_wp2
            generalize wr.alloc (.cells #[.int .i64 (O q).id, .int .i64 (O q).kind, .int .i64 (O q).up, .int .i64 (O q).b1, .slice (O q).c1.a (O q).c1.n (O q).c1.k, .string (O q).data, .slice (O q).items.a (O q).items.n (O q).items.k, .slice (O q).own.a (O q).own.n (O q).own.k, .int .i64 (O q).b2, .slice (O q).c2.a (O q).c2.n (O q).c2.k] 38) = W at *
            have y1 : _ = some (kv u) := A2.c0 1 rfl
            have bl : Below W.heap.size W ((W.alloc (.cells #[.int .i64 (O q).id] 2)).drew) := below_drew ((Below.refl _ W).alloc (Nat.le_refl _) _)
            have N2 := hid (N1.out.below bl)
            have l1 : NumL ((W.alloc (.cells #[.int .i64 (O q).id] 2)).drew) (some ⟨W.heap.size, 0, none⟩) [(O q).id] := NumL.one (O q).id
            have hB2 := then_ B1 bl
            have OA := hid (N2.out.own u hu)
            have HL := hid l1
            have lm : (kidsTo (fun i => (O i).id) (fun i => (O i).up) q u).length ≤ 100000 := by omega
            have s1 := hB2.size
            have A3 : Hid (∀ w3 : World, ((W.alloc (.cells #[.int .i64 (O q).id] 2)).drew).grownBy w3 (kv u).ownBlock → Blk w3 (nb u) (.cells #[.pointer (some ⟨ob, off + u * 10, none⟩), kv u] 49)) := hid (fun w3 g3 => (g3.block (nb u) (N2.out.blk u hu).lt (own_ne (N2.out.own u hu) (N2.out.blk u hu) (by omega))).trans (N2.out.blk u hu))
            have FIN : Hid (∀ (a3 : Option Addr) (c3 : Nat) (w3 : World), OwnI w3 w.heap.size (.slice a3 ((kidsTo (fun i => (O i).id) (fun i => (O i).up) q u).length + 1) c3) (kidsTo (fun i => (O i).id) (fun i => (O i).up) q u ++ [(O q).id]) → ((W.alloc (.cells #[.int .i64 (O q).id] 2)).drew).grownBy w3 (kv u).ownBlock → ((Value.slice a3 ((kidsTo (fun i => (O i).id) (fun i => (O i).up) q u).length + 1) c3).ownBlock = (kv u).ownBlock ∨ (Value.slice a3 ((kidsTo (fun i => (O i).id) (fun i => (O i).up) q u).length + 1) c3).ownBlock = some ((W.alloc (.cells #[.int .i64 (O q).id] 2)).drew).heap.size) →
                ∃ kv', Hid (Nodes (w3.setCell ⟨nb u, 1, none⟩ (.slice a3 ((kidsTo (fun i => (O i).id) (fun i => (O i).up) q u).length + 1) c3)) w.heap.size w.heap.size k (fun i => (O i).id) ob off nb kv' (kidsTo (fun i => (O i).id) (fun i => (O i).up) (q + 1))) ∧ Below w.heap.size w (w3.setCell ⟨nb u, 1, none⟩ (.slice a3 ((kidsTo (fun i => (O i).id) (fun i => (O i).up) q u).length + 1) c3))) := hid (fun a3 c3 w3 ho g3 v3 => by
              refine ⟨_, hid ((N2.out.step hu ho g3 v3).same (fun i hi => ?_)), ?_⟩
              · split
                · rename_i e; subst e; exact kidsTo_yes EU.out.symm
                · rename_i e; exact kidsTo_no (fun e' => e (HR.out.inj hi hu (by rw [← e']; exact EU.out.symm)))
              · exact (hB2.trans (below_grown g3 hB2.size (fun j hj => (World.ownsRow.lt (N2.out.own u hu) j hj).1))).setCell (N1.out.low u hu) _)
            have y1a : (W.alloc (.cells #[.int .i64 (O q).id] 2)).cell? ⟨nb u, 1, none⟩ = some (kv u) := (((Below.refl _ W).alloc (Nat.le_refl _) _).cell (p := ⟨nb u, 1, none⟩) A2.lt).trans y1
            have un : ¬ nb u = W.heap.size := by have := A2.lt; omega
            have pn : ¬ wr.heap.size = W.heap.size := by have := A1.lt; omega
            clear l1 bl b1 q0 q1 q2 q3 q4 q5 q6 q7 q8 q9 hlen A1 A2 O2 LK hB2
            go_region_law ((refine step_append_int (by rfl) _ _ (by rfl) w.heap.size (kv u) (kidsTo (fun i => (O i).id) (fun i => (O i).up) q u) (by rfl) OA.out _ 1 (O q).id (by rfl) HL.out lm s1 ?_; intro a3 c3 w3 O3 g3 v3; have Z := hid (A3.out w3 g3); have z1 : _ = some (kv u) := Z.out.c0 1 rfl; have z2 := Z.out.warm 1; have O4 := hid O3; have G4 := hid g3; have V4 := hid v3; clear O3 g3 v3))
            all_goals (
              obtain ⟨kv', nn, bb⟩ := FIN.out _ _ _ O4.out G4.out V4.out
              clear FIN O4 G4 V4 Z z1 z2 A3 OA HL N2 N1 HN
              go_wp2
              exact ⟨⟨q + 1, kv', by omega, by go_num, nn, bb⟩, by simp [intOf]; omega⟩)
        · have e : q = k := by omega
          subst e
          have i1 : ¬ (q : Int) < (q : Int) := by omega
          go_wp2
          go_ret
          exact ⟨_, rfl, ⟨_, _, HN.out⟩, hB⟩
end Go.Proofs.Ytkoinmddcnnipaa
namespace Go.Proofs.Ytkoinmddcnnipaa
open Go Go.RowKit Go.Deep Go.Maps

theorem grown_set {a b : World} {P : Nat} (h : a.grownBy b (some P)) (i : Nat) (v : Value) : a.grownBy (b.setCell ⟨P, i, none⟩ v) (some P) :=
  ⟨h.os, h.tape, h.output, by rw [nblk_setCell]; exact h.size, fun j hj hne => (blk_setCell_other _ _ _ _ (by dsimp only; intro e; exact hne (by rw [e]))).trans (h.block j hj hne)⟩
theorem grown_refl (a : World) (P : Nat) : a.grownBy a (some P) := ⟨rfl, rfl, rfl, Nat.le_refl _, fun _ _ _ => rfl⟩
def RowI (w : World) (a : Option Addr) (b n : Nat) : Prop := 0 < n → a = some ⟨b, 0, none⟩ ∧ ∃ m F, n ≤ m ∧ w.rowIs b 2 m F
theorem RowI.below {w w' : World} {a : Option Addr} {b n : Nat} (h : RowI w a b n) (hb : Below w.heap.size w w') : RowI w' a b n := fun h0 => by
  obtain ⟨e, m, F, hm, hr⟩ := h h0
  exact ⟨e, m, F, hm, hr.of_block (hb.block b hr.lt)⟩
theorem RowI.grown {w w' : World} {a : Option Addr} {b n : Nat} {row : Option Nat} (h : RowI w a b n) (hg : w.grownBy w' row) (hne : some b ≠ row) : RowI w' a b n := fun h0 => by
  obtain ⟨e, m, F, hm, hr⟩ := h h0
  exact ⟨e, m, F, hm, hr.of_block (hg.block b hr.lt hne)⟩
theorem RowI.lt {w : World} {a : Option Addr} {b n : Nat} (h : RowI w a b n) (h0 : 0 < n) : b < w.heap.size := by
  obtain ⟨_, m, F, _, hr⟩ := h h0
  exact hr.lt
theorem RowI.of_own {w : World} {B k : Nat} {a : Option Addr} {l : List Int} (h : OwnI w B (.slice a l.length k) l) : ∃ b, RowI w a b l.length ∧ (0 < l.length → B ≤ b) := by
  rcases h.2 with ⟨_, h0⟩ | ⟨g, cap, cur, hv, hbg, hg, hle, _, hsz, _⟩
  · exact ⟨0, fun h => by omega, fun h => by omega⟩
  · simp only [Value.slice.injEq] at hv
    refine ⟨g, fun _ => ⟨hv.1, cap * 1, fun i => cur.getD i undef, by omega, cur, hg, hsz, fun i hi => ?_⟩, fun _ => hbg⟩
    have : i < cur.size := by omega
    simp [this]
theorem IntsAt.grown {w w' : World} {a : Option Addr} {b n : Nat} {h : Nat → Int} {row : Option Nat} (hc : IntsAt w a n h) (hr : RowI w a b n) (hg : w.grownBy w' row) (hne : 0 < n → some b ≠ row) : IntsAt w' a n h := fun h0 => by
  obtain ⟨b', off, e, hlt, hcc⟩ := hc h0
  obtain ⟨e2, m, F, hm, hrow⟩ := hr h0
  have e3 := e.symm.trans e2
  simp only [Option.some.injEq, Addr.mk.injEq] at e3
  obtain ⟨rfl, _, _⟩ := e3
  refine ⟨b', off, e, Nat.lt_of_lt_of_le hlt hg.size, fun i hi => ?_⟩
  have hb := hg.block b' hlt (hne h0)
  exact (by simp only [World.cell?]; rw [hb] : w'.cell? ⟨b', off + i, none⟩ = w.cell? ⟨b', off + i, none⟩).trans (hcc i hi)

def mkI (k0 : Int) (i : Nat) : Int := k0 + i

theorem OwnI.of_block {w w' : World} {B : Nat} {v : Value} {l : List Int} (h : OwnI w B v l) (hb : ∀ g, v.ownBlock = some g → w'.heap[g]? = w.heap[g]?) : OwnI w' B v l := by
  refine ⟨h.1, ?_⟩
  rcases h.2 with hn | ⟨g, cap, cur, rfl, h1, h2, rest⟩
  · exact .inl hn
  · exact .inr ⟨g, cap, cur, rfl, h1, (hb g rfl).trans h2, rest⟩
theorem OwnI.below {w w' : World} {B : Nat} {v : Value} {l : List Int} (h : OwnI w B v l) (hb : Below w.heap.size w w') : OwnI w' B v l := h.of_block fun g hg => hb.block g (World.ownsRow.lt h g hg).2
theorem OwnI.mk {lo hi : Nat} {w w' : World} {B : Nat} {v : Value} {l : List Int} (h : OwnI w B v l) (hm : Mk lo hi w w') (hb : ∀ g, v.ownBlock = some g → g < lo ∨ hi ≤ g) : OwnI w' B v l := h.of_block fun g hg => hm.block g (World.ownsRow.lt h g hg).2 (hb g hg)
theorem Mk.below {lo hi : Nat} {w w0 w' : World} (h0 : Below w0.heap.size w0 w) (h : Mk lo hi w w') (hB : w0.heap.size ≤ lo) : Below w0.heap.size w0 w' :=
  ⟨h.os.trans h0.os, h.tape.trans h0.tape, h.output.trans h0.output, Nat.le_trans h0.size h.size, fun k hk => (h.block k (Nat.lt_of_lt_of_le hk h0.size) (.inl (by omega))).trans (h0.block k hk)⟩
end Go.Proofs.Ytkoinmddcnnipaa
namespace Go.Proofs.Ytkoinmddcnnipaa
open Go Go.RowKit Go.Deep Go.Maps

def walkFn (N : Nat) : Value := .func (.func 29) #[] #[.pointer (some ⟨N + 1, 0, none⟩), .pointer (some ⟨N, 0, none⟩), .pointer (some ⟨N + 1 + 1, 0, none⟩)]
structure Walk (w0 : World) (c : Nat) (w : World) (v : Value) (l : List Int) : Prop where
  b : Below w0.heap.size w0 w
  q : Blk w w0.heap.size (.cells #[.map (some c)] 44)
  p : Blk w (w0.heap.size + 1) (.cells #[v] 30)
  r : Blk w (w0.heap.size + 1 + 1) (.cells #[walkFn w0.heap.size] 58)
  o : OwnI w (w0.heap.size + 1 + 1 + 1) v l

theorem Blk.grown {w w' : World} {P : Nat} {o : Obj} {row : Option Nat} (h : Blk w P o) (hg : w.grownBy w' row) (hne : some P ≠ row) : Blk w' P o := (hg.block P h.lt hne).trans h
theorem Walk.push {w0 w w' : World} {c : Nat} {v v' : Value} {l : List Int} {x : Int} (h : Walk w0 c w v l) (ho : OwnI w' (w0.heap.size + 1 + 1 + 1) v' (l ++ [x])) (hg : (w.alloc (.cells #[.int .i64 x] 2)).grownBy w' v.ownBlock) :
    Walk w0 c (w'.setCell ⟨w0.heap.size + 1, 0, none⟩ v') v' (l ++ [x]) := by
  have b1 : Below w.heap.size w (w.alloc (.cells #[.int .i64 x] 2)) := (Below.refl _ w).alloc (Nat.le_refl _) _
  have hne : ∀ k, k < w0.heap.size + 1 + 1 + 1 → some k ≠ v.ownBlock := fun k hk e => by have := (World.ownsRow.lt h.o k e.symm).1; omega
  have p1 := (h.p.below b1).grown hg (hne _ (by omega))
  have q1 := (h.q.below b1).grown hg (hne _ (by omega))
  have r1 := (h.r.below b1).grown hg (hne _ (by omega))
  refine ⟨?_, q1.other (by omega) _, ?_, r1.other (by omega) _, ?_⟩
  · exact ((h.b.trans (b1.mono h.b.size)).trans (below_grown hg (by have := h.q.lt; simp; omega) (fun j hj => by have := (World.ownsRow.lt h.o j hj).1; omega))).setCell (by dsimp only; omega) _
  · simpa using p1.setAt (i := 0) v'
  · exact World.ownsRow.kept ho (row := some (w0.heap.size + 1)) ⟨rfl, rfl, rfl, by rw [nblk_setCell]; exact Nat.le_refl _, fun j hj hne => blk_setCell_other _ _ _ _ (by dsimp only; intro e; exact hne (by rw [e]))⟩ (.inr (fun e => by have := (World.ownsRow.lt ho _ e).1; omega))

theorem kidsTo_map (ids ups : Nat → Int) (n i : Nat) : kidsTo ids ups n i = (kidsI ids ups n i).map ids := rfl
theorem flat_len (l : List Nat) (f : Nat → List Nat) (j : Nat) (hj : j < l.length) : ((l.take j).flatMap f).length + (f l[j]).length ≤ (l.flatMap f).length := by
  have e : l = l.take j ++ (l[j] :: l.drop (j + 1)) := by simp
  have : l.flatMap f = (l.take j).flatMap f ++ (f l[j] ++ (l.drop (j + 1)).flatMap f) := by
    conv => lhs; rw [e]
    rw [List.flatMap_append, List.flatMap_cons]
  rw [this, List.length_append, List.length_append]
  omega

set_option maxRecDepth 100000 in
set_option maxHeartbeats 4000000 in
theorem walk_any (w0 : World) (B c n : Nat) (ids ups : Nat → Int) (ob off : Nat) (nb : Nat → Nat) (kv : Nat → Value) (hN : Nodes w0 B c n ids ob off nb kv (kidsTo ids ups n)) (hr : Rises ids n) (h0 : ∀ j, j < n → ids j ≠ ups 0)
    (hw : ∀ i, i < n → (Lit.int .i64 (ids i)).wf = true) (hn : n ≤ 271) (f : Nat) :
    ∀ (i : Nat) (l : List Int) (v : Value) (w : World), i < n → (∀ j m, j < n → parIt ids ups n m j = some i → m < f) → l.length + (preI ids ups n f i).length ≤ 271 → Walk w0 c w v l →
      Calls Try.prog 29 #[.int .i64 (ids i), .pointer (some ⟨w0.heap.size + 1, 0, none⟩), .pointer (some ⟨w0.heap.size, 0, none⟩), .pointer (some ⟨w0.heap.size + 1 + 1, 0, none⟩)] w fun e w' =>
        ∃ v', e = .returned (.tuple #[]) ∧ Walk w0 c w' v' (l ++ (preI ids ups n f i).map ids) := by
  have HN := hid hN
  have HR := hid hr
  have H0 := hid h0
  have HW := hid hw
  clear hN hr h0 hw
  induction f with
  | zero => intro i l v w hi hh; exact absurd (hh i 0 hi rfl) (by omega)
  | succ f ih =>
    intro i l v w hi hh hl hk
    have IH := hid ih
    have HH := hid hh
    have HK := hid hk
    have hlen : l.length + 1 ≤ 271 := by simp [preI] at hl; omega
    have HL := hid hl
    clear ih hh hk hl
    have x1 : _ = some v := HK.out.p.c0 0 rfl
    have L1 := hid (NumL.one (w := w) (ids i))
    have b1 : Below w.heap.size w (w.alloc (.cells #[.int .i64 (ids i)] 2)) := (Below.refl _ w).alloc (Nat.le_refl _) _
    have O1 : Hid (OwnI (w.alloc (.cells #[.int .i64 (ids i)] 2)) (w0.heap.size + 1 + 1 + 1) v l) := hid (OwnI.alloc HK.out.o _)
    have hs := HK.out.r.lt
    have s1 : w0.heap.size + 1 + 1 + 1 ≤ (w.alloc (.cells #[.int .i64 (ids i)] 2)).heap.size := by simp; omega
    have P1 : Hid (∀ w' : World, (w.alloc (.cells #[.int .i64 (ids i)] 2)).grownBy w' v.ownBlock → Blk w' (w0.heap.size + 1) (.cells #[v] 30)) := hid (fun w' hg => (HK.out.p.below b1).grown hg (fun e => by have := (World.ownsRow.lt HK.out.o _ e.symm).1; omega))
    clear b1
    obtain ⟨ka, kc, hkv⟩ := ownsRow_shape (HN.out.own i hi)
    have KV := hid hkv
    clear hkv
    have D3 : Hid (∀ (a3 : Option Addr) (c3 : Nat) (w3 : World), OwnI w3 (w0.heap.size + 1 + 1 + 1) (.slice a3 (l ++ [ids i]).length c3) (l ++ [ids i]) → (w.alloc (.cells #[.int .i64 (ids i)] 2)).grownBy w3 v.ownBlock →
        Walk w0 c (w3.setCell ⟨w0.heap.size + 1, 0, none⟩ (.slice a3 (l.length + 1) c3)) (.slice a3 (l.length + 1) c3) (l ++ [ids i])) := hid (fun a3 c3 w3 o3 g3 => HK.out.push (by simpa using o3) g3)
    have E3 : Hid (∀ (W : World) (v' : Value) (l' : List Int), Walk w0 c W v' l' → W.cell? ⟨w0.heap.size, 0, none⟩ = some (.map (some c)) ∧ (Instr.lookup 44 (.map (some c)) (.int .i64 (ids i)) false).run Try.prog W = .ok (.pointer (some ⟨nb i, 0, none⟩)) W ∧ W.cell? ⟨nb i, 1, none⟩ = some (.slice ka (kidsTo ids ups n i).length kc)) := hid (fun W v' l' hk => by
      have N2 := HN.out.below hk.b
      have LK := N2.map.look (HW.out i hi)
      rw [findI_eq HR.out hi] at LK
      exact ⟨hk.q.c0 0 rfl, LK, by rw [← KV.out]; exact (N2.blk i hi).c0 1 rfl⟩)
    have hm : (kidsTo ids ups n i).length ≤ 271 := by have := kidsTo_len ids ups n i; omega
    go_enter Try.func29, Try.ntmps29
    go_wp2_with (refine wpList_append_ints _ rfl _ _ rfl (w0.heap.size + 1 + 1 + 1) v l rfl O1.out _ 1 1 [ids i] rfl rfl L1.out (by omega) s1 ?_; intro a3 c3 w3 o3 g3 v3; have p3 := P1.out w3 g3; have z1 : _ = some v := p3.c0 0 rfl; have z2 := p3.warm 0; have K2 := hid (D3.out a3 c3 w3 o3 g3); obtain ⟨y0, LK, y1⟩ := E3.out _ _ _ K2.out; clear o3 g3 v3 p3)
    clear z1 z2 y0 LK y1 x1 L1 O1 P1 D3 E3 HK s1
    generalize w3.setCell ⟨w0.heap.size + 1, 0, none⟩ (.slice a3 (l.length + 1) c3) = W at *
    generalize Value.slice a3 (l.length + 1) c3 = v2 at *
    clear hs
    have hml : (kidsTo ids ups n i).length = (kidsI ids ups n i).length := by rw [kidsTo_map, List.length_map]
    have HML := hid hml
    clear hml
    go_loopw [18] (fun t wr => ∃ (j : Nat) (v' : Value), j ≤ (kidsTo ids ups n i).length ∧ t = .int .i64 j ∧ Hid (Walk w0 c wr v' (l ++ [ids i] ++ (((kidsI ids ups n i).take j).flatMap (preI ids ups n f)).map ids))) (fun t _ => (kidsTo ids ups n i).length - (intOf t).toNat)
    case atStart => exact ⟨0, v2, Nat.zero_le _, rfl, hid (by simpa using K2.out)⟩
    case round =>
      obtain ⟨j, v', hj, rfl, HWk⟩ := hrel
      clear K2
      by_cases hlt : j < (kidsTo ids ups n i).length
      · have i1 : (j : Int) < ((kidsTo ids ups n i).length : Int) := by omega
        have i0 : (0 : Int) ≤ (j : Int) := by omega
        have hj2 : j < (kidsI ids ups n i).length := by have := HML.out; omega
        have ow := (HN.out.below HWk.out.b).own i hi
        rw [KV.out] at ow
        obtain ⟨b, o, rfl, _, hcc⟩ := OwnI.lies ow (by omega)
        have g1 : wr.cell? ⟨b, o + j, none⟩ = some (.int .i64 (ids (kidsI ids ups n i)[j])) := hcc j _ (by simp [kidsTo_map, hj2])
        have r1 : wr.cell? ⟨w0.heap.size + 1 + 1, 0, none⟩ = some (walkFn w0.heap.size) := HWk.out.r.c0 0 rfl
        unfold walkFn at r1
        obtain ⟨k1, k2⟩ := (mem_kids HR.out H0.out hi).1 (List.getElem_mem hj2)
        have CK := hid (IH.out (kidsI ids ups n i)[j] _ v' wr k1 (fun a m ha e => by
            have := HH.out a (m + 1) ha (by rw [parIt_succ', e]; exact k2)
            omega) (by
            have h1 := HL.out
            have h2 := flat_len (kidsI ids ups n i) (preI ids ups n f) j hj2
            simp only [preI, List.length_cons] at h1
            simp only [List.length_append, List.length_map, List.length_cons, List.length_nil]
            omega) HWk.out)
        have EX : Hid (l ++ [ids i] ++ (((kidsI ids ups n i).take j).flatMap (preI ids ups n f)).map ids ++ (preI ids ups n f (kidsI ids ups n i)[j]).map ids = l ++ [ids i] ++ (((kidsI ids ups n i).take (j + 1)).flatMap (preI ids ups n f)).map ids) := hid (by
          rw [List.take_succ_eq_append_getElem hj2, List.flatMap_append, List.map_append]
          simp)
        generalize ids (kidsI ids ups n i)[j] = y at *
        clear hcc ow k1 k2
        go_wp2_with (go_at_call 29; refine CK.out.mono ?_; rintro e w4 ⟨v4, rfl, h4⟩; have H4 := hid h4; clear h4)
        have H5 := H4.out
        rw [EX.out] at H5
        exact ⟨⟨j + 1, v4, by omega, by go_num, hid H5⟩, by simp [intOf]; omega⟩
      · have e : j = (kidsI ids ups n i).length := by have := HML.out; omega
        have i1 : ¬ (j : Int) < ((kidsTo ids ups n i).length : Int) := by omega
        have H5 := HWk.out
        rw [e, List.take_length] at H5
        have H6 : Hid (Walk w0 c wr v' (l ++ (preI ids ups n (f + 1) i).map ids)) := hid (by simpa [preI] using H5)
        clear H5 e HWk
        go_wp2
        exact bodyPost_end (v := .tuple #[]) (by simp [results, Try.results29, go_sem]) rfl ⟨rfl, _, H6.out⟩
end Go.Proofs.Ytkoinmddcnnipaa
