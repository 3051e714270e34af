/- What an observer is told: the text, plainly; the program's eye feels threads; a scene's kids. -/
import Derived.Test.YtaaeeaknjlammaaGreatDoorVB
import Derived.Test.YtaaeeaknjlammaaGreatDoorKU0
import Derived.Test.YtaaeeaknjlammaaGreatDoorZF
import Derived.Test.YtaaeeaknjlammaaGreatDoorZT
namespace Go.Proofs.YtaaeeaknjlammaaGreatDoor
open Go Go.RowKit Go.Deep Go.Maps Go.BigFrame Go.Shelf

def feltT (t : ThrV) (b : Int) (c : CatL) : Bool := flowsB t.b1 t.c1.n t.c1.f t.c1.g t.own.n t.own.h b c.n c.f c.g
def kidsK (k : KerV) (i : Nat) : List Int := kidsTo (fun j => (k.O j).id) (fun j => (k.O j).up) k.on i
def vThr (k : KerV) (b : Int) (c : CatL) (n : Nat) : List UInt8 := ((List.range n).map fun i => if feltT (k.T i) b c = true then thrX (k.T i) else []).flatten
def vObj (k : KerV) (b : Int) (c : CatL) (n : Nat) : List UInt8 := ((List.range n).map fun i => if seenO (k.O i) b c = true then objT (k.O i) (kidsK k i) else []).flatten
theorem vThr_yes {k : KerV} {b : Int} {c : CatL} {n : Nat} (h : feltT (k.T n) b c = true) : vThr k b c (n + 1) = vThr k b c n ++ thrX (k.T n) := by simp [vThr, List.range_succ, h]
theorem vThr_no {k : KerV} {b : Int} {c : CatL} {n : Nat} (h : feltT (k.T n) b c = false) : vThr k b c (n + 1) = vThr k b c n := by simp [vThr, List.range_succ, h]
theorem vObj_yes {k : KerV} {b : Int} {c : CatL} {n : Nat} (h : seenO (k.O n) b c = true) : vObj k b c (n + 1) = vObj k b c n ++ objT (k.O n) (kidsK k n) := by simp [vObj, List.range_succ, h]
theorem vObj_no {k : KerV} {b : Int} {c : CatL} {n : Nat} (h : seenO (k.O n) b c = false) : vObj k b c (n + 1) = vObj k b c n := by simp [vObj, List.range_succ, h]
def viewW : List UInt8 := [118, 105, 101, 119]
def vHead (b : Int) (c : CatL) : List UInt8 := lineL [viewW, lb b c]
def vText (k : KerV) (b : Int) (c : CatL) : ByteArray := if kerOk k = true ∧ labOkV b c = true then ⟨(vHead b c ++ vThr k b c k.tn ++ vObj k b c k.on).toArray⟩ else ⟨#[]⟩
theorem vHead_len {b : Int} {c : CatL} (h : labOkV b c = true) : (vHead b c).length ≤ 300 := by
  unfold vHead
  rw [line_two]
  have := lb_len h
  simp only [List.length_append, viewW, List.length_cons, List.length_nil]
  omega
theorem kidsK_small {k : KerV} (h : kerOk k = true) (i : Nat) : ∀ x ∈ kidsK k i, small x := fun x hx => by
  unfold kidsK kidsTo at hx
  obtain ⟨j, hj, rfl⟩ := List.mem_map.1 hx
  exact ker_id h (List.mem_range.1 (List.mem_filter.1 hj).1)
theorem kidsK_len (k : KerV) (i : Nat) : (kidsK k i).length ≤ k.on := kidsTo_len _ _ _ _
theorem objV_len {k : KerV} (h : kerOk k = true) {i : Nat} (hi : i < k.on) : (objT (k.O i) (kidsK k i)).length ≤ 4000 :=
  objT_len (ker_obj h hi) (ker_id h hi) (ker_up h hi) (kidsK_small h i) (Nat.le_trans (kidsK_len k i) (ker_lens h).2.2)
theorem vThr_len {k : KerV} {b : Int} {c : CatL} (h : kerOk k = true) {n : Nat} (hn : n ≤ k.tn) : (vThr k b c n).length ≤ 1000 * n := by
  induction n with
  | zero => simp [vThr]
  | succ n ih =>
    have h1 := ih (by omega)
    have h2 := thrX_len (ker_thr h (i := n) (by omega))
    cases e : feltT (k.T n) b c with
    | true => rw [vThr_yes e, List.length_append]; omega
    | false => rw [vThr_no e]; omega
theorem vObj_len {k : KerV} {b : Int} {c : CatL} (h : kerOk k = true) {n : Nat} (hn : n ≤ k.on) : (vObj k b c n).length ≤ 4000 * n := by
  induction n with
  | zero => simp [vObj]
  | succ n ih =>
    have h1 := ih (by omega)
    have h2 := objV_len h (i := n) (by omega)
    cases e : seenO (k.O n) b c with
    | true => rw [vObj_yes e, List.length_append]; omega
    | false => rw [vObj_no e]; omega
theorem vHead_ne (b : Int) (c : CatL) : vHead b c ≠ [] := by unfold vHead; rw [line_two]; simp
theorem reach_felt {t : ThrV} {b : Int} {c : CatL} (h : thrOkV t = true) (hl : labOkV b c = true) :
    rchB t.id t.made t.b1 t.c1.n t.c1.f t.c1.g t.b2 t.c2.n t.c2.f t.c2.g t.own.n t.own.h b c.n c.f c.g = feltT t b c := by
  unfold thrOkV at h
  unfold labOkV at hl
  simp [rchB, h, hl, feltT]

set_option maxRecDepth 100000 in
set_option maxHeartbeats 4000000 in
theorem feels_any (b : Int) (c : CatL) (t : ThrV) (w : World) (hc : c.at w) (ht : t.at w) (hok : thrOkV t = true) (hl : labOkV b c = true) :
    Calls Tryz.prog 33 #[.agg #[.int .i64 b, c.val], t.val] w fun e w' => e = .returned (.bool (feltT t b c)) ∧ Below w.heap.size w w' := by
  have hb0 : Below w.heap.size w ((w.alloc (.cells #[.int .i64 b, .slice c.a c.n c.k] 68)).alloc (.cells #[.int .i64 t.id, .int .i64 t.b1, .slice t.c1.a t.c1.n t.c1.k, .int .i64 t.b2, .slice t.c2.a t.c2.n t.c2.k, .slice t.own.a t.own.n t.own.k, .int .i64 t.made] 54)) := ((Below.refl _ w).alloc (Nat.le_refl _) _).alloc (by simp) _
  have E0 := (Blk.new w (.cells #[.int .i64 b, .slice c.a c.n c.k] 68)).alloc (.cells #[.int .i64 t.id, .int .i64 t.b1, .slice t.c1.a t.c1.n t.c1.k, .int .i64 t.b2, .slice t.c2.a t.c2.n t.c2.k, .slice t.own.a t.own.n t.own.k, .int .i64 t.made] 54)
  have A0 := Blk.new (w.alloc (.cells #[.int .i64 b, .slice c.a c.n c.k] 68)) (.cells #[.int .i64 t.id, .int .i64 t.b1, .slice t.c1.a t.c1.n t.c1.k, .int .i64 t.b2, .slice t.c2.a t.c2.n t.c2.k, .slice t.own.a t.own.n t.own.k, .int .i64 t.made] 54)
  simp only [World.size_alloc] at A0
  have ht' := ht.below hb0
  have hc' := hc.below hb0
  have LQ := hid (implReaches_any t.id t.made t.b1 t.c1.a t.c1.n t.c1.k t.c1.f t.c1.g t.b2 t.c2.a t.c2.n t.c2.k t.c2.f t.c2.g t.own.a t.own.n t.own.k t.own.h b c.a c.n c.k c.f c.g _ ht'.1.1 ht'.2.1.1 ht'.2.2.1 ht'.1.2 ht'.2.1.2 ht'.2.2.2 hc'.1 hc'.2)
  rw [reach_felt hok hl] at LQ
  unfold ThrV.val CatL.val IntL.val
  obtain ⟨x0, x1, x2, x3, x4, x5, x6⟩ := A0.seven
  obtain ⟨y0, y1⟩ := E0.two
  clear ht hc ht' hc' hok hl
  go_enter Tryz.func33, Tryz.ntmps33
  go_wp2_with fail
  refine LQ.out.mono ?_
  rintro e w1 ⟨rfl, hb1⟩
  have B1 := then_ hb0 hb1
  clear x0 x1 x2 x3 x4 x5 x6 y0 y1 LQ A0 E0 hb0 hb1
  go_wp2
  go_ret
  exact ⟨rfl, B1⟩

set_option maxRecDepth 100000 in
set_option maxHeartbeats 4000000 in
theorem kids_any (k : KerV) (m : Nat) (nb : Nat → Nat) (kv : Nat → Value) (B i : Nat) (w : World) (ok : kerOk k = true) (hw : k.wfs) (hN : NodesK w B k m nb kv) (hi : i < k.on) :
    Calls Tryz.prog 37 #[.agg #[.slice k.ta k.tn k.tk, .slice k.oa k.on k.ok, .map (some m)], .int .i64 (k.O i).id] w fun e w' => e = .returned (kv i) ∧ Below w.heap.size w w' := by
  obtain ⟨ob, off, eoa, hn⟩ := hN
  have fi : findI (fun j => (k.O j).id) k.on (k.O i).id = some i := findI_first (ids := fun j => (k.O j).id) hi rfl fun j hj e => by
    have h1 := objsOk_rises (kerOk_objs ok) j i hj hi
    have h2 : (k.O j).id = (k.O i).id := e
    simp only at h1
    omega
  have b0 : Below w.heap.size w (w.alloc (.cells #[.slice k.ta k.tn k.tk, .slice k.oa k.on k.ok, .map (some m)] 71)) := (Below.refl _ w).alloc (Nat.le_refl _) _
  have P0 := Blk.new w (.cells #[.slice k.ta k.tn k.tk, .slice k.oa k.on k.ok, .map (some m)] 71)
  have n' := hn.below b0
  have LK := n'.map.look (x := (k.O i).id) (hw i hi).1
  rw [fi] at LK
  simp only [Option.map_some] at LK
  have n1 : _ = some (kv i) := (n'.blk i hi).c0 1 rfl
  have p2 : _ = some (Value.map (some m)) := P0.c0 2 rfl
  clear ok hw hn n' fi P0 eoa hi
  go_enter Tryz.func37, Tryz.ntmps37
  go_wp2
  go_ret
  exact ⟨rfl, b0⟩
end Go.Proofs.YtaaeeaknjlammaaGreatDoor
