/- An op as a change. -/
import Derived.Test.YtcchpeebhkiacaaZL
import Derived.Maps.RangeWalk
namespace Go.Proofs.Ytcchpeebhkiacaa
open Go Go.RowKit Go.Deep Go.Maps

theorem form1 {o : OpV} (h : o.kind = 1) : opForm o = (nmOk o.name && o.to.toList.isEmpty) := by simp [opForm, h, inB]
theorem form2 {o : OpV} (h : o.kind = 2) : opForm o = (nmOk o.name && nmOk o.to && o.data.toList.isEmpty) := by simp [opForm, h, inB, Bool.and_assoc]
theorem form3 {o : OpV} (h : o.kind = 3) : opForm o = (nmOk o.name && o.to.toList.isEmpty && o.data.toList.isEmpty) := by simp [opForm, h, inB, Bool.and_assoc]
theorem form0 {o : OpV} (h1 : o.kind ≠ 1) (h2 : o.kind ≠ 2) (h3 : o.kind ≠ 3) : opForm o = false := by
  have : inB o.kind 1 3 = false := by simp [inB]; omega
  simp [opForm, this]
theorem meth1formed (v : Value) (W : World) : (method 252 98 v "loop.example/g00272/impl.formed").run Try.prog W = .ok (114, v) W := by kernel_rfl
theorem meth1finds (v : Value) (W : World) : (method 252 98 v "loop.example/g00272/impl.finds").run Try.prog W = .ok (113, v) W := by kernel_rfl
theorem meth1do (v : Value) (W : World) : (method 252 98 v "loop.example/g00272/impl.do").run Try.prog W = .ok (112, v) W := by kernel_rfl
set_option maxRecDepth 100000 in
set_option maxHeartbeats 1000000 in
theorem change1 (o : OpV) (w : World) (ho : o.wf) (k : o.kind = 1) :
    Calls Try.prog 48 #[o.val] w fun e w' => e = .returned (.tuple #[.iface 98 o.val, .bool (opForm o)]) ∧ Below w.heap.size w w' := by
  have b0 : Below w.heap.size w (w.alloc (.cells #[.int .i64 1, .string o.name, .string o.to, .string o.data] 36)) := (Below.refl _ w).alloc (Nat.le_refl _) _
  have C := hid (formedA o (w.alloc (.cells #[.int .i64 1, .string o.name, .string o.to, .string o.data] 36)) ho)
  rw [form1 k]
  unfold OpV.val at C ⊢
  rw [k] at C ⊢
  generalize (nmOk o.name && o.to.toList.isEmpty) = R at *
  clear k
  go_enter Try.func48, Try.ntmps48
  have hm := meth1formed
  go_wp2_with fail
  refine C.out.mono ?_
  rintro e w1 ⟨rfl, hb1⟩
  have B1 := then_ b0 hb1
  clear hm C
  go_wp2
  exact bodyPost_ret (v := .tuple #[.iface 98 (.agg #[.int .i64 1, .string o.name, .string o.to, .string o.data]), .bool R]) (by simp [results, Try.results48, go_sem]) rfl ⟨rfl, B1⟩
theorem meth2formed (v : Value) (W : World) : (method 252 99 v "loop.example/g00272/impl.formed").run Try.prog W = .ok (118, v) W := by kernel_rfl
theorem meth2finds (v : Value) (W : World) : (method 252 99 v "loop.example/g00272/impl.finds").run Try.prog W = .ok (117, v) W := by kernel_rfl
theorem meth2do (v : Value) (W : World) : (method 252 99 v "loop.example/g00272/impl.do").run Try.prog W = .ok (116, v) W := by kernel_rfl
set_option maxRecDepth 100000 in
set_option maxHeartbeats 1000000 in
theorem change2 (o : OpV) (w : World) (ho : o.wf) (k : o.kind = 2) :
    Calls Try.prog 48 #[o.val] w fun e w' => e = .returned (.tuple #[.iface 99 o.val, .bool (opForm o)]) ∧ Below w.heap.size w w' := by
  have b0 : Below w.heap.size w (w.alloc (.cells #[.int .i64 2, .string o.name, .string o.to, .string o.data] 36)) := (Below.refl _ w).alloc (Nat.le_refl _) _
  have C := hid (formedR o (w.alloc (.cells #[.int .i64 2, .string o.name, .string o.to, .string o.data] 36)) ho)
  rw [form2 k]
  unfold OpV.val at C ⊢
  rw [k] at C ⊢
  generalize (nmOk o.name && nmOk o.to && o.data.toList.isEmpty) = R at *
  clear k
  go_enter Try.func48, Try.ntmps48
  have hm := meth2formed
  go_wp2_with fail
  refine C.out.mono ?_
  rintro e w1 ⟨rfl, hb1⟩
  have B1 := then_ b0 hb1
  clear hm C
  go_wp2
  exact bodyPost_ret (v := .tuple #[.iface 99 (.agg #[.int .i64 2, .string o.name, .string o.to, .string o.data]), .bool R]) (by simp [results, Try.results48, go_sem]) rfl ⟨rfl, B1⟩
theorem meth3formed (v : Value) (W : World) : (method 252 100 v "loop.example/g00272/impl.formed").run Try.prog W = .ok (121, v) W := by kernel_rfl
theorem meth3finds (v : Value) (W : World) : (method 252 100 v "loop.example/g00272/impl.finds").run Try.prog W = .ok (120, v) W := by kernel_rfl
theorem meth3do (v : Value) (W : World) : (method 252 100 v "loop.example/g00272/impl.do").run Try.prog W = .ok (119, v) W := by kernel_rfl
set_option maxRecDepth 100000 in
set_option maxHeartbeats 1000000 in
theorem change3 (o : OpV) (w : World) (ho : o.wf) (k : o.kind = 3) :
    Calls Try.prog 48 #[o.val] w fun e w' => e = .returned (.tuple #[.iface 100 o.val, .bool (opForm o)]) ∧ Below w.heap.size w w' := by
  have b0 : Below w.heap.size w (w.alloc (.cells #[.int .i64 3, .string o.name, .string o.to, .string o.data] 36)) := (Below.refl _ w).alloc (Nat.le_refl _) _
  have C := hid (formedD o (w.alloc (.cells #[.int .i64 3, .string o.name, .string o.to, .string o.data] 36)) ho)
  rw [form3 k]
  unfold OpV.val at C ⊢
  rw [k] at C ⊢
  generalize (nmOk o.name && o.to.toList.isEmpty && o.data.toList.isEmpty) = R at *
  clear k
  go_enter Try.func48, Try.ntmps48
  have hm := meth3formed
  go_wp2_with fail
  refine C.out.mono ?_
  rintro e w1 ⟨rfl, hb1⟩
  have B1 := then_ b0 hb1
  clear hm C
  go_wp2
  exact bodyPost_ret (v := .tuple #[.iface 100 (.agg #[.int .i64 3, .string o.name, .string o.to, .string o.data]), .bool R]) (by simp [results, Try.results48, go_sem]) rfl ⟨rfl, B1⟩
set_option maxRecDepth 100000 in
set_option maxHeartbeats 1000000 in
theorem change0 (o : OpV) (w : World) (k1 : o.kind ≠ 1) (k2 : o.kind ≠ 2) (k3 : o.kind ≠ 3) :
    Calls Try.prog 48 #[o.val] w fun e w' => e = .returned (.tuple #[.nilIface, .bool false]) ∧ Below w.heap.size w w' := by
  unfold OpV.val
  have k1' : ¬ o.kind = 1 := k1
  have k2' : ¬ o.kind = 2 := k2
  have k3' : ¬ o.kind = 3 := k3
  clear k1 k2 k3
  go_enter Try.func48, Try.ntmps48
  go_wp2
  exact bodyPost_ret (v := .tuple #[.nilIface, .bool false]) (by simp [results, Try.results48, go_sem]) rfl ⟨rfl, (Below.refl _ _).alloc (Nat.le_refl _) _⟩
end Go.Proofs.Ytcchpeebhkiacaa
/- Does a shelf fit? Its contents' sizes, in whatever order. -/
namespace Go.Proofs.Ytcchpeebhkiacaa
open Go Go.RowKit Go.Deep Go.Maps

def szL (look : List UInt8 → Option ByteArray) (x : List UInt8) : Nat := match look x with | some d => d.size | none => 0
def sumN (g : List UInt8 → Nat) (left : List UInt8 → Bool) : List (List UInt8) → Nat
  | [] => 0
  | x :: r => (if left x = true then 0 else g x) + sumN g left r
theorem sumN_none {g : List UInt8 → Nat} {left : List UInt8 → Bool} : ∀ {K : List (List UInt8)}, (∀ x ∈ K, left x = true) → sumN g left K = 0
  | [], _ => rfl
  | x :: r, h => by rw [sumN, if_pos (h x (List.mem_cons_self ..)), sumN_none (fun y hy => h y (List.mem_cons_of_mem _ hy))]
theorem sumN_all {g : List UInt8 → Nat} {left : List UInt8 → Bool} (h : ∀ x, left x = false) : ∀ {K : List (List UInt8)}, sumN g left K = (K.map g).sum
  | [] => rfl
  | x :: r => by rw [sumN, if_neg (by rw [h x]; decide), sumN_all h]; simp
theorem sumN_congr {g : List UInt8 → Nat} {left left' : List UInt8 → Bool} : ∀ {K : List (List UInt8)}, (∀ x ∈ K, left x = left' x) → sumN g left K = sumN g left' K
  | [], _ => rfl
  | x :: r, h => by rw [sumN, sumN, h x (List.mem_cons_self ..), sumN_congr (fun y hy => h y (List.mem_cons_of_mem _ hy))]
theorem sumN_strike {g : List UInt8 → Nat} {left left' : List UInt8 → Bool} {k : List UInt8} (hk' : left' k = false) (ho : ∀ x, x ≠ k → left' x = left x) (hl : left k = true) : ∀ {K : List (List UInt8)}, K.Nodup → k ∈ K → sumN g left' K = sumN g left K + g k
  | [], _, h => by cases h
  | x :: r, hn, h => by
    obtain ⟨hx, hr⟩ := List.nodup_cons.1 hn
    rw [sumN, sumN]
    by_cases e : x = k
    · subst e
      rw [if_pos hl, if_neg (by rw [hk']; decide), sumN_congr (left := left') (left' := left) (fun y hy => ho y (fun e => hx (e ▸ hy)))]
      omega
    · have hk : k ∈ r := by
        rcases List.mem_cons.1 h with h | h
        · exact absurd h.symm e
        · exact h
      rw [ho x e, sumN_strike hk' ho hl hr hk]
      omega
theorem sumN_le {g : List UInt8 → Nat} {left : List UInt8 → Bool} : ∀ {K : List (List UInt8)}, sumN g left K ≤ (K.map g).sum
  | [] => Nat.le_refl _
  | x :: r => by
    have := sumN_le (g := g) (left := left) (K := r)
    rw [sumN]
    simp only [List.map_cons, List.sum_cons]
    split <;> omega
theorem same_len {K L : List (List UInt8)} (hK : K.Nodup) (hL : L.Nodup) (h : ∀ x, x ∈ K ↔ x ∈ L) : K.length = L.length := (List.perm_ext_iff_of_nodup hK hL |>.2 h).length_eq

set_option maxRecDepth 100000 in
set_option maxHeartbeats 4000000 in
theorem fits_any {w : World} {B c n q : Nat} {look : List UInt8 → Option ByteArray} {m : List UInt8 → Option Nat} {pv : List UInt8 → Value} {ps : List UInt8 → List ByteArray} (h : Shelf w B c n q look m pv ps)
    (K : List (List UInt8)) (hK : K.Nodup) (hm : ∀ x, x ∈ K ↔ (look x).isSome = true) (hz : (K.map (szL look)).sum ≤ 1000000000) (hl : K.length ≤ 1000000) :
    Calls Try.prog 49 #[.map (some c)] w fun e w' => e = .returned (.bool (decide (K.length ≤ 60) && decide ((K.map (szL look)).sum ≤ 200000))) ∧ Below w.heap.size w w' := by
  have HS := hid h
  obtain ⟨D, hown, hD, hall⟩ := h.map
  have HALL := hid hall
  obtain ⟨w1, hrun, R1, q1, s1⟩ := hown.range keyedS Try.underlying52
  have HR1 := hid R1
  have B1 : Hid (Below w.heap.size w w1) := hid (below_grown q1 (Nat.le_refl _) (fun j e => by cases e))
  have I0 : Hid (sumN (szL look) (fun x => Maps.has D (.string x)) K = 0) := hid (sumN_none (fun x hx => by rw [(hall x).1, h.dom x]; exact (hm x).1 hx))
  have I1 : Hid (∀ x, Maps.has D (.string x) = true → x ∈ K) := hid (fun x hx => (hm x).2 (by rw [← h.dom x, ← (hall x).1]; exact hx))
  clear h hown hD hall R1 q1 s1
  go_enter Try.func49, Try.ntmps49
  go_wp2
  clear hrun
  go_loopw [3] (fun s wr => ∃ (left : Lit → Bool) (cnt : Nat), wr.ranges Try.prog 9 ptrElem c w.heap.size n D left cnt ∧ s = .int .i64 (sumN (szL look) (fun x => left (.string x)) K : Nat) ∧ (∀ x, left (.string x) = true → x ∈ K) ∧ Below w.heap.size w wr) (fun _ wr => wr.rangeLeft c w.heap.size)
  case atStart => exact ⟨_, _, HR1.out, by rw [I0.out]; rfl, I1.out, B1.out⟩
  case round =>
    clear HR1 B1 I0 I1
    obtain ⟨left, cnt, hr, rfl, hin, hB⟩ := hrel
    have HR := hid hr
    have HI := hid hin
    rcases hr.next keyedS 0 with ⟨h0, hl0, hrun⟩ | ⟨kv, v, kl, y, w2, cnt2, hkey, hlk, hv, hat, hrun, hrg, hlt, hgr, hsz, hen⟩
    · have hnx : ∀ ty, (Instr.next (.pointer (some ⟨w.heap.size, 0, none⟩)) false ty).run Try.prog wr = .ok (.tuple #[.bool false]) wr := fun _ => hrun
      have ES := hid (sumN_all (g := szL look) (left := fun x => left (.string x)) (fun x => hl0 _) (K := K))
      obtain ⟨K', k1, k2, k3, hlen⟩ := (HS.out.below hB).map.count 3
      have EK : Hid (K'.length = K.length) := hid (same_len k1 hK (fun x => by rw [k2, hm, HS.out.dom]))
      rw [EK.out] at hlen
      rw [ES.out]
      clear hr hin hrun hl0 h0 k1 k2 k3 EK ES
      have hz' : ((K.map (szL look)).sum : Int) ≤ 1000000000 := by omega
      by_cases t : K.length ≤ 60
      · have t' : (K.length : Int) ≤ 60 := by omega
        go_wp2
        go_ret
        exact ⟨ret_bool (Bool.eq_iff_iff.2 (by simp; omega)), hB⟩
      · have t' : ¬ (K.length : Int) ≤ 60 := by omega
        go_wp2
        go_ret
        exact ⟨ret_bool (by simp), hB⟩
    · obtain ⟨s, rfl, rfl, zs⟩ := WideMaps.string_of_keyOf Try.underlying9 hkey
      have inK : key s ∈ K := HI.out _ hlk
      obtain ⟨d, hd⟩ := Option.isSome_iff_exists.1 ((hm _).1 inK)
      obtain ⟨b, hb⟩ := Option.isSome_iff_exists.1 (show (m (key s)).isSome = true by rw [HS.out.dom, hd]; rfl)
      have ey : y.1 = .lit (.int .i64 (b : Int)) := (hat _).symm.trans ((HALL.out (key s)).2 b hb)
      obtain ⟨y1, y2⟩ := y
      simp only at ey
      subst ey
      obtain rfl : v = .pointer (some ⟨b, 0, none⟩) := by rw [ptrElem_inv hv, if_neg (by omega)]; simp
      have hnx : ∀ ty, (Instr.next (.pointer (some ⟨w.heap.size, 0, none⟩)) false ty).run Try.prog wr = .ok (.tuple #[.bool true, .string s, .pointer (some ⟨b, 0, none⟩)]) w2 := fun _ => hrun
      have B2 : Below w.heap.size w w2 := hB.trans (below_grown hgr hB.size (fun j e => by cases e; exact Nat.le_refl _))
      have bl := (HS.out.blk _ _ _ hb hd).below B2
      obtain ⟨x0, x1⟩ := bl.two
      have eg : szL look (key s) = d.size := by unfold szL; rw [hd]
      have ES : Hid ((sumN (szL look) (fun x => left (.string x)) K : Int) + d.size = (sumN (szL look) (fun x => left (.string x) && !(Lit.string x).sameKey (.string (key s))) K : Nat)) := hid (by
        rw [sumN_strike (k := key s) (left := fun x => left (.string x)) (left' := fun x => left (.string x) && !(Lit.string x).sameKey (.string (key s))) (by simp [Lit.sameKey]) (fun x hx => by simp [Lit.sameKey, hx]) hlk hK inK, eg]
        omega)
      have zz : sumN (szL look) (fun x => left (.string x)) K + d.size ≤ 1000000000 := by
        have h1 := ES.out
        have h2 := sumN_le (g := szL look) (left := fun x => left (.string x) && !(Lit.string x).sameKey (.string (key s))) (K := K)
        omega
      have HG := hid hrg
      have HC : Hid (w2.rangeLeft c w.heap.size < wr.rangeLeft c w.heap.size) := hid (by rw [hrg.left_eq, HR.out.left_eq]; exact hlt)
      have HI2 : Hid (∀ x, (left (.string x) && !(Lit.string x).sameKey (.string (key s))) = true → x ∈ K) := hid (fun x hx => HI.out x (by simp at hx; exact hx.1))
      clear hr hin hrun hkey hlk hv hat hrg hlt hgr hd hb bl eg
      go_wp2
      go_roundw
      case rel => exact ⟨_, cnt2, HG.out, by rw [ES.out]; rfl, HI2.out, B2⟩
      case measure => exact HC.out
end Go.Proofs.Ytcchpeebhkiacaa
