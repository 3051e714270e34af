/- l4Add: one object put in, by the model. -/
import Derived.Test.YthbmfbnnemgbpaaGreatDoorNC2
namespace Go.Proofs.YthbmfbnnemgbpaaGreatDoor
open Go Go.RowKit Go.Deep Go.Maps
def insL (o : ObjV) : List ObjV → List ObjV
 | [] => [o]
 | x :: r => if o.id < x.id then o :: x :: r else x :: insL o r
theorem insL_some {o : ObjV} : ∀ {a b : List ObjV}, (∃ y ∈ a, o.id < y.id) → insL o (a ++ b) = insL o a ++ b
 | [], b, h => by obtain ⟨y, hy, _⟩ := h; exact absurd hy List.not_mem_nil
 | x :: a, b, h => by
  show insL o (x :: (a ++ b)) = insL o (x :: a) ++ b
  unfold insL
  split
  ·rfl
  ·rename_i hx
   obtain ⟨y, hy, hl⟩ := h
   rcases List.mem_cons.1 hy with rfl | hy
   ·exact absurd hl hx
   ·rw [insL_some ⟨y, hy, hl⟩]; rfl
theorem insL_none {o : ObjV} : ∀ {a b : List ObjV}, (∀ y ∈ a, ¬ o.id < y.id) → insL o (a ++ b) = a ++ insL o b
 | [], b, _ => rfl
 | x :: a, b, h => by
  show insL o (x :: (a ++ b)) = _
  rw [insL, if_neg (h x List.mem_cons_self), insL_none (fun y hy => h y (List.mem_cons_of_mem _ hy))]
  rfl
theorem insL_len {o : ObjV} : ∀ {a : List ObjV}, (insL o a).length = a.length + 1
 | [] => rfl
 | x :: a => by
  unfold insL
  split
  ·simp
  ·rw [List.length_cons, insL_len, List.length_cons]
theorem insL_mem {o x : ObjV} : ∀ {a : List ObjV}, x ∈ insL o a → x = o ∨ x ∈ a
 | [], h => .inl (List.mem_singleton.1 h)
 | y :: a, h => by
  unfold insL at h
  split at h
  ·rcases List.mem_cons.1 h with h | h
   ·exact .inl h
   ·exact .inr h
  ·rcases List.mem_cons.1 h with h | h
   ·exact .inr (h ▸ List.mem_cons_self)
   ·rcases insL_mem h with h | h
    ·exact .inl h
    ·exact .inr (List.mem_cons_of_mem _ h)
def KerV.oL (k : KerV) (j : Nat) : List ObjV := (List.range j).map k.O
theorem oL_succ (k : KerV) (j : Nat) : k.oL (j + 1) = k.oL j ++ [k.O j] := by unfold KerV.oL; rw [List.range_succ, List.map_append]; rfl
theorem oL_len (k : KerV) (j : Nat) : (k.oL j).length = j := by simp [KerV.oL]
def addTo (k : KerV) (o : ObjV) (j : Nat) : Bool → List ObjV → Prop
 | false, l => l = k.oL j ∧ ∀ y ∈ k.oL j, ¬ o.id < y.id
 | true, l => l = insL o (k.oL j) ∧ ∃ y ∈ k.oL j, o.id < y.id
theorem addTo_skip {k : KerV} {o : ObjV} {j : Nat} {l : List ObjV} (h : addTo k o j false l) (hx : ¬ o.id < (k.O j).id) : addTo k o (j + 1) false (l ++ [k.O j]) := by
 refine ⟨by rw [oL_succ, h.1], fun y hy => ?_⟩
 rw [oL_succ] at hy
 rcases List.mem_append.1 hy with hy | hy
 ·exact h.2 y hy
 ·rw [List.mem_singleton.1 hy]; exact hx
theorem addTo_put {k : KerV} {o : ObjV} {j : Nat} {l : List ObjV} (h : addTo k o j false l) (hx : o.id < (k.O j).id) : addTo k o (j + 1) true (l ++ [o] ++ [k.O j]) := by
 refine ⟨?_, k.O j, by rw [oL_succ]; exact List.mem_append_right _ List.mem_cons_self, hx⟩
 rw [oL_succ, insL_none h.2, h.1, insL, if_pos hx, List.append_assoc]
 rfl
theorem addTo_more {k : KerV} {o : ObjV} {j : Nat} {l : List ObjV} (h : addTo k o j true l) : addTo k o (j + 1) true (l ++ [k.O j]) := by
 obtain ⟨h1, y, hy, hl⟩ := h
 refine ⟨by rw [oL_succ, insL_some ⟨y, hy, hl⟩, h1], y, by rw [oL_succ]; exact List.mem_append_left _ hy, hl⟩
theorem addTo_len {k : KerV} {o : ObjV} {j : Nat} : ∀ {b : Bool} {l : List ObjV}, addTo k o j b l → l.length ≤ j + 1
 | false, _, h => by rw [h.1, oL_len]; omega
 | true, _, h => by rw [h.1, insL_len, oL_len]; omega
set_option maxRecDepth 100000 in
set_option maxHeartbeats 16000000 in
theorem l4Add_any (k : KerV) (o : ObjV) (w : World) (hk : k.at w) (hn : k.on ≤ 1048000) :
 Calls Tryz.prog 94 #[k.val, .agg #[.int .i64 o.id, .int .i64 o.kind, .int .i64 o.up, .int .i64 o.b1, .slice o.c1.a o.c1.n o.c1.k, .string o.data, .slice o.items.a o.items.n o.items.k, .slice o.own.a o.own.n o.own.k, .int .i64 o.b2, .slice o.c2.a o.c2.n o.c2.k]] w fun e w' => ∃ (oa : Option Addr) (co : Nat), e = .returned (.agg #[.slice k.ta k.tn k.tk, .slice oa (insL o (k.oL k.on)).length co]) ∧ OwnOb w' w.heap.size (.slice oa (insL o (k.oL k.on)).length co) (insL o (k.oL k.on)) ∧ Below w.heap.size w w' := by
 have b0 : Below w.heap.size w (((w.alloc (.cells #[.slice k.ta k.tn k.tk, .slice k.oa k.on k.ok] 42)).alloc (.cells #[.int .i64 o.id, .int .i64 o.kind, .int .i64 o.up, .int .i64 o.b1, .slice o.c1.a o.c1.n o.c1.k, .string o.data, .slice o.items.a o.items.n o.items.k, .slice o.own.a o.own.n o.own.k, .int .i64 o.b2, .slice o.c2.a o.c2.n o.c2.k] 88)).alloc (.cells #[.slice none 0 0, .slice none 0 0] 42)) := (((Below.refl _ w).alloc (Nat.le_refl _) _).alloc (by simp) _).alloc (by simp; omega) _
 have A0 : Blk (((w.alloc (.cells #[.slice k.ta k.tn k.tk, .slice k.oa k.on k.ok] 42)).alloc (.cells #[.int .i64 o.id, .int .i64 o.kind, .int .i64 o.up, .int .i64 o.b1, .slice o.c1.a o.c1.n o.c1.k, .string o.data, .slice o.items.a o.items.n o.items.k, .slice o.own.a o.own.n o.own.k, .int .i64 o.b2, .slice o.c2.a o.c2.n o.c2.k] 88)).alloc (.cells #[.slice none 0 0, .slice none 0 0] 42)) w.heap.size (.cells #[.slice k.ta k.tn k.tk, .slice k.oa k.on k.ok] 42) := ((Blk.new w (.cells #[.slice k.ta k.tn k.tk, .slice k.oa k.on k.ok] 42)).alloc _).alloc _
 have P0 : Blk (((w.alloc (.cells #[.slice k.ta k.tn k.tk, .slice k.oa k.on k.ok] 42)).alloc (.cells #[.int .i64 o.id, .int .i64 o.kind, .int .i64 o.up, .int .i64 o.b1, .slice o.c1.a o.c1.n o.c1.k, .string o.data, .slice o.items.a o.items.n o.items.k, .slice o.own.a o.own.n o.own.k, .int .i64 o.b2, .slice o.c2.a o.c2.n o.c2.k] 88)).alloc (.cells #[.slice none 0 0, .slice none 0 0] 42)) (w.heap.size + 1) (.cells #[.int .i64 o.id, .int .i64 o.kind, .int .i64 o.up, .int .i64 o.b1, .slice o.c1.a o.c1.n o.c1.k, .string o.data, .slice o.items.a o.items.n o.items.k, .slice o.own.a o.own.n o.own.k, .int .i64 o.b2, .slice o.c2.a o.c2.n o.c2.k] 88) := by have := (Blk.new (w.alloc (.cells #[.slice k.ta k.tn k.tk, .slice k.oa k.on k.ok] 42)) (.cells #[.int .i64 o.id, .int .i64 o.kind, .int .i64 o.up, .int .i64 o.b1, .slice o.c1.a o.c1.n o.c1.k, .string o.data, .slice o.items.a o.items.n o.items.k, .slice o.own.a o.own.n o.own.k, .int .i64 o.b2, .slice o.c2.a o.c2.n o.c2.k] 88)).alloc (.cells #[.slice none 0 0, .slice none 0 0] 42); simpa using this
 have R0 : Blk (((w.alloc (.cells #[.slice k.ta k.tn k.tk, .slice k.oa k.on k.ok] 42)).alloc (.cells #[.int .i64 o.id, .int .i64 o.kind, .int .i64 o.up, .int .i64 o.b1, .slice o.c1.a o.c1.n o.c1.k, .string o.data, .slice o.items.a o.items.n o.items.k, .slice o.own.a o.own.n o.own.k, .int .i64 o.b2, .slice o.c2.a o.c2.n o.c2.k] 88)).alloc (.cells #[.slice none 0 0, .slice none 0 0] 42)) (w.heap.size + 1 + 1) (.cells #[.slice none 0 0, .slice none 0 0] 42) := by have := Blk.new ((w.alloc (.cells #[.slice k.ta k.tn k.tk, .slice k.oa k.on k.ok] 42)).alloc (.cells #[.int .i64 o.id, .int .i64 o.kind, .int .i64 o.up, .int .i64 o.b1, .slice o.c1.a o.c1.n o.c1.k, .string o.data, .slice o.items.a o.items.n o.items.k, .slice o.own.a o.own.n o.own.k, .int .i64 o.b2, .slice o.c2.a o.c2.n o.c2.k] 88)) (.cells #[.slice none 0 0, .slice none 0 0] 42); simpa using this
 have HO := hid (hk.2.2.2.below b0)
 have HB := hid b0
 have lV : Hid ((((w.alloc (.cells #[.slice k.ta k.tn k.tk, .slice k.oa k.on k.ok] 42)).alloc (.cells #[.int .i64 o.id, .int .i64 o.kind, .int .i64 o.up, .int .i64 o.b1, .slice o.c1.a o.c1.n o.c1.k, .string o.data, .slice o.items.a o.items.n o.items.k, .slice o.own.a o.own.n o.own.k, .int .i64 o.b2, .slice o.c2.a o.c2.n o.c2.k] 88)).alloc (.cells #[.slice none 0 0, .slice none 0 0] 42)).heap.size = w.heap.size + 3) := hid (by simp)
 have E0 : Hid (OwnOb ((((w.alloc (.cells #[.slice k.ta k.tn k.tk, .slice k.oa k.on k.ok] 42)).alloc (.cells #[.int .i64 o.id, .int .i64 o.kind, .int .i64 o.up, .int .i64 o.b1, .slice o.c1.a o.c1.n o.c1.k, .string o.data, .slice o.items.a o.items.n o.items.k, .slice o.own.a o.own.n o.own.k, .int .i64 o.b2, .slice o.c2.a o.c2.n o.c2.k] 88)).alloc (.cells #[.slice none 0 0, .slice none 0 0] 42)).alloc (.cells #[] 88)) (((w.alloc (.cells #[.slice k.ta k.tn k.tk, .slice k.oa k.on k.ok] 42)).alloc (.cells #[.int .i64 o.id, .int .i64 o.kind, .int .i64 o.up, .int .i64 o.b1, .slice o.c1.a o.c1.n o.c1.k, .string o.data, .slice o.items.a o.items.n o.items.k, .slice o.own.a o.own.n o.own.k, .int .i64 o.b2, .slice o.c2.a o.c2.n o.c2.k] 88)).alloc (.cells #[.slice none 0 0, .slice none 0 0] 42)).heap.size (.slice (some ⟨w.heap.size + 1 + 1 + 1, 0, none⟩) 0 0) []) := hid (by
  have h := OwnOb.made (((w.alloc (.cells #[.slice k.ta k.tn k.tk, .slice k.oa k.on k.ok] 42)).alloc (.cells #[.int .i64 o.id, .int .i64 o.kind, .int .i64 o.up, .int .i64 o.b1, .slice o.c1.a o.c1.n o.c1.k, .string o.data, .slice o.items.a o.items.n o.items.k, .slice o.own.a o.own.n o.own.k, .int .i64 o.b2, .slice o.c2.a o.c2.n o.c2.k] 88)).alloc (.cells #[.slice none 0 0, .slice none 0 0] 42)) (((w.alloc (.cells #[.slice k.ta k.tn k.tk, .slice k.oa k.on k.ok] 42)).alloc (.cells #[.int .i64 o.id, .int .i64 o.kind, .int .i64 o.up, .int .i64 o.b1, .slice o.c1.a o.c1.n o.c1.k, .string o.data, .slice o.items.a o.items.n o.items.k, .slice o.own.a o.own.n o.own.k, .int .i64 o.b2, .slice o.c2.a o.c2.n o.c2.k] 88)).alloc (.cells #[.slice none 0 0, .slice none 0 0] 42)).heap.size (Nat.le_refl _)
  rw [show (some ⟨(((w.alloc (.cells #[.slice k.ta k.tn k.tk, .slice k.oa k.on k.ok] 42)).alloc (.cells #[.int .i64 o.id, .int .i64 o.kind, .int .i64 o.up, .int .i64 o.b1, .slice o.c1.a o.c1.n o.c1.k, .string o.data, .slice o.items.a o.items.n o.items.k, .slice o.own.a o.own.n o.own.k, .int .i64 o.b2, .slice o.c2.a o.c2.n o.c2.k] 88)).alloc (.cells #[.slice none 0 0, .slice none 0 0] 42)).heap.size, 0, none⟩ : Option Addr) = some ⟨w.heap.size + 1 + 1 + 1, 0, none⟩ from by simp] at h
  exact h)
 have BE := hid ((Below.refl _ (((w.alloc (.cells #[.slice k.ta k.tn k.tk, .slice k.oa k.on k.ok] 42)).alloc (.cells #[.int .i64 o.id, .int .i64 o.kind, .int .i64 o.up, .int .i64 o.b1, .slice o.c1.a o.c1.n o.c1.k, .string o.data, .slice o.items.a o.items.n o.items.k, .slice o.own.a o.own.n o.own.k, .int .i64 o.b2, .slice o.c2.a o.c2.n o.c2.k] 88)).alloc (.cells #[.slice none 0 0, .slice none 0 0] 42))).alloc (Nat.le_refl _) (.cells #[] 88))
 have HA := hid A0
 have HP := hid P0
 have HR := hid R0
 unfold KerV.val
 clear hk b0 A0 P0 R0
 go_enter Tryz.func94, Tryz.ntmps94
 go_wp2
 generalize (((w.alloc (.cells #[.slice k.ta k.tn k.tk, .slice k.oa k.on k.ok] 42)).alloc (.cells #[.int .i64 o.id, .int .i64 o.kind, .int .i64 o.up, .int .i64 o.b1, .slice o.c1.a o.c1.n o.c1.k, .string o.data, .slice o.items.a o.items.n o.items.k, .slice o.own.a o.own.n o.own.k, .int .i64 o.b2, .slice o.c2.a o.c2.n o.c2.k] 88)).alloc (.cells #[.slice none 0 0, .slice none 0 0] 42)) = V at *
 go_loopw [5, 6, 7] (fun v d i wr => ∃ (j : Nat) (b : Bool) (l : List ObjV) (la : Option Addr) (lc : Nat), j ≤ k.on ∧ i = .int .i64 j ∧ d = .bool b ∧ v = .slice la l.length lc ∧ addTo k o j b l ∧ OwnOb wr V.heap.size (.slice la l.length lc) l ∧ Below V.heap.size V wr) (fun _ _ i _ => k.on - (intOf i).toNat)
 case atStart => exact ⟨0, false, [], _, 0, Nat.zero_le _, rfl, rfl, rfl, ⟨rfl, fun y hy => absurd hy List.not_mem_nil⟩, E0.out, BE.out⟩
 case round =>
  clear E0 BE
  obtain ⟨j, d, l, la, lc, hj, rfl, rfl, rfl, ad, ow, be⟩ := hrel
  have AT := hid ad
  have OW := hid ow
  have BB := hid be
  have ll : l.length ≤ 1048575 := by have := addTo_len ad; omega
  have ll2 : l.length + 1 ≤ 1048576 := by omega
  clear ad ow be
  obtain ⟨a0, a1⟩ := (HA.out.below BB.out).two
  have PB := hid (HP.out.below BB.out)
  obtain ⟨o0, o1, o2, o3, o4, o5, o6, o7, o8, o9⟩ := PB.out.ten
  by_cases hlt : j < k.on
  ·have i1 : (j : Int) < (k.on : Int) := by omega
   have i0 : (0 : Int) ≤ (j : Int) := by omega
   obtain ⟨b, off, ea, hbl, hc⟩ := HO.out (by omega)
   have CC : Cells10 wr b (off + j * 10) (k.O j) := (hc j hlt).1.below hbl BB.out
   have q0 : wr.cell? ⟨b, off + j * 10, none⟩ = some (.int .i64 (k.O j).id) := CC.c0
   have q1 : wr.cell? ⟨b, off + j * 10 + 1, none⟩ = some (.int .i64 (k.O j).kind) := CC.c1
   have q2 : wr.cell? ⟨b, off + j * 10 + 2, none⟩ = some (.int .i64 (k.O j).up) := CC.c2
   have q3 : wr.cell? ⟨b, off + j * 10 + 3, none⟩ = some (.int .i64 (k.O j).b1) := CC.c3
   have q4 : wr.cell? ⟨b, off + j * 10 + 4, none⟩ = some (.slice (k.O j).c1.a (k.O j).c1.n (k.O j).c1.k) := CC.c4
   have q5 : wr.cell? ⟨b, off + j * 10 + 5, none⟩ = some (.string (k.O j).data) := CC.c5
   have q6 : wr.cell? ⟨b, off + j * 10 + 6, none⟩ = some (.slice (k.O j).items.a (k.O j).items.n (k.O j).items.k) := CC.c6
   have q7 : wr.cell? ⟨b, off + j * 10 + 7, none⟩ = some (.slice (k.O j).own.a (k.O j).own.n (k.O j).own.k) := CC.c7
   have q8 : wr.cell? ⟨b, off + j * 10 + 8, none⟩ = some (.int .i64 (k.O j).b2) := CC.c8
   have q9 : wr.cell? ⟨b, off + j * 10 + 9, none⟩ = some (.slice (k.O j).c2.a (k.O j).c2.n (k.O j).c2.k) := CC.c9
   rw [ea] at a1
   have hbw : b < wr.heap.size := Nat.lt_of_lt_of_le hbl BB.out.size
   have HLT := hid hlt
   have EA := hid ea
   have HC : Hid (∀ X, Below V.heap.size V X → Cells10 X b (off + j * 10) (k.O j)) := hid (fun X hX => (hc j HLT.out).1.below hbl hX)
   clear hc CC ea hlt
   cases d with
   | true =>
    go_wp2_with fail
    go_quiet (fail)
    have bn : Below wr.heap.size wr (wr.drewN nq) := below_drewN (Below.refl _ wr) nq
    have OWn := hid (OW.out.below bn)
    have BBn := hid (BB.out.trans (bn.mono BB.out.size))
    clear a0 a1 q0 q1 q2 q3 q4 q5 q6 q7 q8 q9 o0 o1 o2 o3 o4 o5 o6 o7 o8 o9 PB
    clear bn OW BB
    generalize wr.drewN nq = W at *
    obtain ⟨a0, a1⟩ := (HA.out.below BBn.out).two
    rw [EA.out] at a1
    have PB := hid (HP.out.below BBn.out)
    obtain ⟨o0, o1, o2, o3, o4, o5, o6, o7, o8, o9⟩ := PB.out.ten
    have CD : Cells10 W b (off + j * 10) (k.O j) := HC.out W BBn.out
    have q0 : W.cell? ⟨b, off + j * 10, none⟩ = some (.int .i64 (k.O j).id) := CD.c0
    have q1 : W.cell? ⟨b, off + j * 10 + 1, none⟩ = some (.int .i64 (k.O j).kind) := CD.c1
    have q2 : W.cell? ⟨b, off + j * 10 + 2, none⟩ = some (.int .i64 (k.O j).up) := CD.c2
    have q3 : W.cell? ⟨b, off + j * 10 + 3, none⟩ = some (.int .i64 (k.O j).b1) := CD.c3
    have q4 : W.cell? ⟨b, off + j * 10 + 4, none⟩ = some (.slice (k.O j).c1.a (k.O j).c1.n (k.O j).c1.k) := CD.c4
    have q5 : W.cell? ⟨b, off + j * 10 + 5, none⟩ = some (.string (k.O j).data) := CD.c5
    have q6 : W.cell? ⟨b, off + j * 10 + 6, none⟩ = some (.slice (k.O j).items.a (k.O j).items.n (k.O j).items.k) := CD.c6
    have q7 : W.cell? ⟨b, off + j * 10 + 7, none⟩ = some (.slice (k.O j).own.a (k.O j).own.n (k.O j).own.k) := CD.c7
    have q8 : W.cell? ⟨b, off + j * 10 + 8, none⟩ = some (.int .i64 (k.O j).b2) := CD.c8
    have q9 : W.cell? ⟨b, off + j * 10 + 9, none⟩ = some (.slice (k.O j).c2.a (k.O j).c2.n (k.O j).c2.k) := CD.c9
    clear CD
    have sV : V.heap.size ≤ W.heap.size := BBn.out.size
    have QO := hid (OWn.out.below ((Below.refl _ W).alloc (Nat.le_refl _) (.cells #[.int .i64 (k.O j).id, .int .i64 (k.O j).kind, .int .i64 (k.O j).up, .int .i64 (k.O j).b1, .slice (k.O j).c1.a (k.O j).c1.n (k.O j).c1.k, .string (k.O j).data, .slice (k.O j).items.a (k.O j).items.n (k.O j).items.k, .slice (k.O j).own.a (k.O j).own.n (k.O j).own.k, .int .i64 (k.O j).b2, .slice (k.O j).c2.a (k.O j).c2.n (k.O j).c2.k] 88)))
    have QL : Hid (LiesC (W.alloc (.cells #[.int .i64 (k.O j).id, .int .i64 (k.O j).kind, .int .i64 (k.O j).up, .int .i64 (k.O j).b1, .slice (k.O j).c1.a (k.O j).c1.n (k.O j).c1.k, .string (k.O j).data, .slice (k.O j).items.a (k.O j).items.n (k.O j).items.k, .slice (k.O j).own.a (k.O j).own.n (k.O j).own.k, .int .i64 (k.O j).b2, .slice (k.O j).c2.a (k.O j).c2.n (k.O j).c2.k] 88)) (some ⟨W.heap.size, 0, none⟩) 1 (cells10 [k.O j])) := hid (OwnOb.one W (k.O j))
    have sQ : V.heap.size ≤ (W.alloc (.cells #[.int .i64 (k.O j).id, .int .i64 (k.O j).kind, .int .i64 (k.O j).up, .int .i64 (k.O j).b1, .slice (k.O j).c1.a (k.O j).c1.n (k.O j).c1.k, .string (k.O j).data, .slice (k.O j).items.a (k.O j).items.n (k.O j).items.k, .slice (k.O j).own.a (k.O j).own.n (k.O j).own.k, .int .i64 (k.O j).b2, .slice (k.O j).c2.a (k.O j).c2.n (k.O j).c2.k] 88)).heap.size := by simp; omega
    have bQ := hid (BBn.out.alloc BBn.out.size (.cells #[.int .i64 (k.O j).id, .int .i64 (k.O j).kind, .int .i64 (k.O j).up, .int .i64 (k.O j).b1, .slice (k.O j).c1.a (k.O j).c1.n (k.O j).c1.k, .string (k.O j).data, .slice (k.O j).items.a (k.O j).items.n (k.O j).items.k, .slice (k.O j).own.a (k.O j).own.n (k.O j).own.k, .int .i64 (k.O j).b2, .slice (k.O j).c2.a (k.O j).c2.n (k.O j).c2.k] 88))
    go_wp2_with (at_builtin; refine wpList_appendOwnOb _ rfl _ _ rfl V.heap.size (.slice la l.length lc) l rfl QO.out _ _ (k.O j) rfl QL.out (by omega) sQ ?_; intro a7 c7 w7 o7 g7; have O7 := hid o7; have B7 : Hid (Below V.heap.size V w7) := hid (bQ.out.trans (below_grown g7 sQ (fun j e => (World.ownsRow.lt QO.out j e).1))); clear o7 g7)
    go_roundw
    case rel => exact ⟨j + 1, true, l ++ [k.O j], a7, c7, by have := HLT.out; omega, by go_num, rfl, by simp, addTo_more AT.out, by rw [show (l ++ [k.O j]).length = l.length + 1 from by simp]; exact O7.out, B7.out⟩
    case measure => have := HLT.out; simp [intOf]; omega
   | false =>
    by_cases hx : o.id < (k.O j).id
    ·have hx' : decide (o.id < (k.O j).id) = true := decide_eq_true hx
     have HX := hid hx
     go_wp2_with fail
     go_quiet (fail)
     have bn : Below wr.heap.size wr (wr.drewN nq) := below_drewN (Below.refl _ wr) nq
     have OWn := hid (OW.out.below bn)
     have BBn := hid (BB.out.trans (bn.mono BB.out.size))
     clear a0 a1 q0 q1 q2 q3 q4 q5 q6 q7 q8 q9 o0 o1 o2 o3 o4 o5 o6 o7 o8 o9 PB
     clear bn OW BB
     generalize wr.drewN nq = W at *
     obtain ⟨a0, a1⟩ := (HA.out.below BBn.out).two
     rw [EA.out] at a1
     have PB := hid (HP.out.below BBn.out)
     obtain ⟨o0, o1, o2, o3, o4, o5, o6, o7, o8, o9⟩ := PB.out.ten
     have CD : Cells10 W b (off + j * 10) (k.O j) := HC.out W BBn.out
     have q0 : W.cell? ⟨b, off + j * 10, none⟩ = some (.int .i64 (k.O j).id) := CD.c0
     have q1 : W.cell? ⟨b, off + j * 10 + 1, none⟩ = some (.int .i64 (k.O j).kind) := CD.c1
     have q2 : W.cell? ⟨b, off + j * 10 + 2, none⟩ = some (.int .i64 (k.O j).up) := CD.c2
     have q3 : W.cell? ⟨b, off + j * 10 + 3, none⟩ = some (.int .i64 (k.O j).b1) := CD.c3
     have q4 : W.cell? ⟨b, off + j * 10 + 4, none⟩ = some (.slice (k.O j).c1.a (k.O j).c1.n (k.O j).c1.k) := CD.c4
     have q5 : W.cell? ⟨b, off + j * 10 + 5, none⟩ = some (.string (k.O j).data) := CD.c5
     have q6 : W.cell? ⟨b, off + j * 10 + 6, none⟩ = some (.slice (k.O j).items.a (k.O j).items.n (k.O j).items.k) := CD.c6
     have q7 : W.cell? ⟨b, off + j * 10 + 7, none⟩ = some (.slice (k.O j).own.a (k.O j).own.n (k.O j).own.k) := CD.c7
     have q8 : W.cell? ⟨b, off + j * 10 + 8, none⟩ = some (.int .i64 (k.O j).b2) := CD.c8
     have q9 : W.cell? ⟨b, off + j * 10 + 9, none⟩ = some (.slice (k.O j).c2.a (k.O j).c2.n (k.O j).c2.k) := CD.c9
     clear CD
     have sV : V.heap.size ≤ W.heap.size := BBn.out.size
     have mk1 : True := trivial
     have PO := hid (OWn.out.below ((Below.refl _ W).alloc (Nat.le_refl _) (.cells #[.int .i64 o.id, .int .i64 o.kind, .int .i64 o.up, .int .i64 o.b1, .slice o.c1.a o.c1.n o.c1.k, .string o.data, .slice o.items.a o.items.n o.items.k, .slice o.own.a o.own.n o.own.k, .int .i64 o.b2, .slice o.c2.a o.c2.n o.c2.k] 88)))
     have PL : Hid (LiesC (W.alloc (.cells #[.int .i64 o.id, .int .i64 o.kind, .int .i64 o.up, .int .i64 o.b1, .slice o.c1.a o.c1.n o.c1.k, .string o.data, .slice o.items.a o.items.n o.items.k, .slice o.own.a o.own.n o.own.k, .int .i64 o.b2, .slice o.c2.a o.c2.n o.c2.k] 88)) (some ⟨W.heap.size, 0, none⟩) 1 (cells10 [o])) := hid (OwnOb.one W o)
     have sP : V.heap.size ≤ (W.alloc (.cells #[.int .i64 o.id, .int .i64 o.kind, .int .i64 o.up, .int .i64 o.b1, .slice o.c1.a o.c1.n o.c1.k, .string o.data, .slice o.items.a o.items.n o.items.k, .slice o.own.a o.own.n o.own.k, .int .i64 o.b2, .slice o.c2.a o.c2.n o.c2.k] 88)).heap.size := by simp; omega
     have bP := hid (BBn.out.alloc BBn.out.size (.cells #[.int .i64 o.id, .int .i64 o.kind, .int .i64 o.up, .int .i64 o.b1, .slice o.c1.a o.c1.n o.c1.k, .string o.data, .slice o.items.a o.items.n o.items.k, .slice o.own.a o.own.n o.own.k, .int .i64 o.b2, .slice o.c2.a o.c2.n o.c2.k] 88))
     go_wp2_with (first
      | (at_builtin; have mq := mk1; clear mk1 mq; refine wpList_appendOwnOb _ rfl _ _ rfl V.heap.size (.slice la l.length lc) l rfl PO.out _ _ o rfl PL.out (by omega) sP ?_; intro a6 c6 w6 ow6 g6; have B6 : Hid (Below V.heap.size V w6) := hid (bP.out.trans (below_grown g6 sP (fun j e => (World.ownsRow.lt PO.out j e).1))); have O6 := hid (ow6.below ((Below.refl _ w6).alloc (Nat.le_refl _) (.cells #[.int .i64 (k.O j).id, .int .i64 (k.O j).kind, .int .i64 (k.O j).up, .int .i64 (k.O j).b1, .slice (k.O j).c1.a (k.O j).c1.n (k.O j).c1.k, .string (k.O j).data, .slice (k.O j).items.a (k.O j).items.n (k.O j).items.k, .slice (k.O j).own.a (k.O j).own.n (k.O j).own.k, .int .i64 (k.O j).b2, .slice (k.O j).c2.a (k.O j).c2.n (k.O j).c2.k] 88))); have QL : Hid (LiesC (w6.alloc (.cells #[.int .i64 (k.O j).id, .int .i64 (k.O j).kind, .int .i64 (k.O j).up, .int .i64 (k.O j).b1, .slice (k.O j).c1.a (k.O j).c1.n (k.O j).c1.k, .string (k.O j).data, .slice (k.O j).items.a (k.O j).items.n (k.O j).items.k, .slice (k.O j).own.a (k.O j).own.n (k.O j).own.k, .int .i64 (k.O j).b2, .slice (k.O j).c2.a (k.O j).c2.n (k.O j).c2.k] 88)) (some ⟨w6.heap.size, 0, none⟩) 1 (cells10 [k.O j])) := hid (OwnOb.one w6 (k.O j)); have s6 : V.heap.size ≤ w6.heap.size := B6.out.size; have sQ : V.heap.size ≤ (w6.alloc (.cells #[.int .i64 (k.O j).id, .int .i64 (k.O j).kind, .int .i64 (k.O j).up, .int .i64 (k.O j).b1, .slice (k.O j).c1.a (k.O j).c1.n (k.O j).c1.k, .string (k.O j).data, .slice (k.O j).items.a (k.O j).items.n (k.O j).items.k, .slice (k.O j).own.a (k.O j).own.n (k.O j).own.k, .int .i64 (k.O j).b2, .slice (k.O j).c2.a (k.O j).c2.n (k.O j).c2.k] 88)).heap.size := (by simp; omega); have bQ := hid (B6.out.alloc B6.out.size (.cells #[.int .i64 (k.O j).id, .int .i64 (k.O j).kind, .int .i64 (k.O j).up, .int .i64 (k.O j).b1, .slice (k.O j).c1.a (k.O j).c1.n (k.O j).c1.k, .string (k.O j).data, .slice (k.O j).items.a (k.O j).items.n (k.O j).items.k, .slice (k.O j).own.a (k.O j).own.n (k.O j).own.k, .int .i64 (k.O j).b2, .slice (k.O j).c2.a (k.O j).c2.n (k.O j).c2.k] 88)); clear ow6 g6 a0 a1 q0 q1 q2 q3 q4 q5 q6 q7 q8 q9 o0 o1 o2 o3 o4 o5 o6 o7 o8 o9; obtain ⟨a0, a1⟩ := (HA.out.below B6.out).two; rw [EA.out] at a1; have CE : Cells10 w6 b (off + j * 10) (k.O j) := HC.out w6 B6.out; have q0 : w6.cell? ⟨b, off + j * 10, none⟩ = some (.int .i64 (k.O j).id) := CE.c0; have q1 : w6.cell? ⟨b, off + j * 10 + 1, none⟩ = some (.int .i64 (k.O j).kind) := CE.c1; have q2 : w6.cell? ⟨b, off + j * 10 + 2, none⟩ = some (.int .i64 (k.O j).up) := CE.c2; have q3 : w6.cell? ⟨b, off + j * 10 + 3, none⟩ = some (.int .i64 (k.O j).b1) := CE.c3; have q4 : w6.cell? ⟨b, off + j * 10 + 4, none⟩ = some (.slice (k.O j).c1.a (k.O j).c1.n (k.O j).c1.k) := CE.c4; have q5 : w6.cell? ⟨b, off + j * 10 + 5, none⟩ = some (.string (k.O j).data) := CE.c5; have q6 : w6.cell? ⟨b, off + j * 10 + 6, none⟩ = some (.slice (k.O j).items.a (k.O j).items.n (k.O j).items.k) := CE.c6; have q7 : w6.cell? ⟨b, off + j * 10 + 7, none⟩ = some (.slice (k.O j).own.a (k.O j).own.n (k.O j).own.k) := CE.c7; have q8 : w6.cell? ⟨b, off + j * 10 + 8, none⟩ = some (.int .i64 (k.O j).b2) := CE.c8; have q9 : w6.cell? ⟨b, off + j * 10 + 9, none⟩ = some (.slice (k.O j).c2.a (k.O j).c2.n (k.O j).c2.k) := CE.c9; clear CE; have l6 : (l ++ [o]).length ≤ 1048576 := (by simp; omega); have mk2 : True := trivial)
      | (at_builtin; have mq := mk2; refine wpList_appendOwnOb _ rfl _ _ rfl V.heap.size (.slice a6 (l.length + 1) c6) (l ++ [o]) rfl O6.out _ _ (k.O j) rfl QL.out l6 sQ ?_; intro a7 c7 w7 o7 g7; have O7 := hid o7; have B7 : Hid (Below V.heap.size V w7) := hid (bQ.out.trans (below_grown g7 sQ (fun j e => (World.ownsRow.lt O6.out j e).1))); clear o7 g7))
     go_roundw
     case rel => exact ⟨j + 1, true, l ++ [o] ++ [k.O j], a7, c7, by have := HLT.out; omega, by go_num, rfl, by simp, addTo_put AT.out HX.out, by rw [show (l ++ [o] ++ [k.O j]).length = (l ++ [o]).length + 1 from by simp]; exact O7.out, B7.out⟩
     case measure => have := HLT.out; simp [intOf]; omega
    ·have hx' : decide (o.id < (k.O j).id) = false := decide_eq_false hx
     have HX := hid hx
     go_wp2_with fail
     go_quiet (fail)
     have bn : Below wr.heap.size wr (wr.drewN nq) := below_drewN (Below.refl _ wr) nq
     have OWn := hid (OW.out.below bn)
     have BBn := hid (BB.out.trans (bn.mono BB.out.size))
     clear a0 a1 q0 q1 q2 q3 q4 q5 q6 q7 q8 q9 o0 o1 o2 o3 o4 o5 o6 o7 o8 o9 PB
     clear bn OW BB
     generalize wr.drewN nq = W at *
     obtain ⟨a0, a1⟩ := (HA.out.below BBn.out).two
     rw [EA.out] at a1
     have PB := hid (HP.out.below BBn.out)
     obtain ⟨o0, o1, o2, o3, o4, o5, o6, o7, o8, o9⟩ := PB.out.ten
     have CD : Cells10 W b (off + j * 10) (k.O j) := HC.out W BBn.out
     have q0 : W.cell? ⟨b, off + j * 10, none⟩ = some (.int .i64 (k.O j).id) := CD.c0
     have q1 : W.cell? ⟨b, off + j * 10 + 1, none⟩ = some (.int .i64 (k.O j).kind) := CD.c1
     have q2 : W.cell? ⟨b, off + j * 10 + 2, none⟩ = some (.int .i64 (k.O j).up) := CD.c2
     have q3 : W.cell? ⟨b, off + j * 10 + 3, none⟩ = some (.int .i64 (k.O j).b1) := CD.c3
     have q4 : W.cell? ⟨b, off + j * 10 + 4, none⟩ = some (.slice (k.O j).c1.a (k.O j).c1.n (k.O j).c1.k) := CD.c4
     have q5 : W.cell? ⟨b, off + j * 10 + 5, none⟩ = some (.string (k.O j).data) := CD.c5
     have q6 : W.cell? ⟨b, off + j * 10 + 6, none⟩ = some (.slice (k.O j).items.a (k.O j).items.n (k.O j).items.k) := CD.c6
     have q7 : W.cell? ⟨b, off + j * 10 + 7, none⟩ = some (.slice (k.O j).own.a (k.O j).own.n (k.O j).own.k) := CD.c7
     have q8 : W.cell? ⟨b, off + j * 10 + 8, none⟩ = some (.int .i64 (k.O j).b2) := CD.c8
     have q9 : W.cell? ⟨b, off + j * 10 + 9, none⟩ = some (.slice (k.O j).c2.a (k.O j).c2.n (k.O j).c2.k) := CD.c9
     clear CD
     have sV : V.heap.size ≤ W.heap.size := BBn.out.size
     have QO := hid (OWn.out.below ((Below.refl _ W).alloc (Nat.le_refl _) (.cells #[.int .i64 (k.O j).id, .int .i64 (k.O j).kind, .int .i64 (k.O j).up, .int .i64 (k.O j).b1, .slice (k.O j).c1.a (k.O j).c1.n (k.O j).c1.k, .string (k.O j).data, .slice (k.O j).items.a (k.O j).items.n (k.O j).items.k, .slice (k.O j).own.a (k.O j).own.n (k.O j).own.k, .int .i64 (k.O j).b2, .slice (k.O j).c2.a (k.O j).c2.n (k.O j).c2.k] 88)))
     have QL : Hid (LiesC (W.alloc (.cells #[.int .i64 (k.O j).id, .int .i64 (k.O j).kind, .int .i64 (k.O j).up, .int .i64 (k.O j).b1, .slice (k.O j).c1.a (k.O j).c1.n (k.O j).c1.k, .string (k.O j).data, .slice (k.O j).items.a (k.O j).items.n (k.O j).items.k, .slice (k.O j).own.a (k.O j).own.n (k.O j).own.k, .int .i64 (k.O j).b2, .slice (k.O j).c2.a (k.O j).c2.n (k.O j).c2.k] 88)) (some ⟨W.heap.size, 0, none⟩) 1 (cells10 [k.O j])) := hid (OwnOb.one W (k.O j))
     have sQ : V.heap.size ≤ (W.alloc (.cells #[.int .i64 (k.O j).id, .int .i64 (k.O j).kind, .int .i64 (k.O j).up, .int .i64 (k.O j).b1, .slice (k.O j).c1.a (k.O j).c1.n (k.O j).c1.k, .string (k.O j).data, .slice (k.O j).items.a (k.O j).items.n (k.O j).items.k, .slice (k.O j).own.a (k.O j).own.n (k.O j).own.k, .int .i64 (k.O j).b2, .slice (k.O j).c2.a (k.O j).c2.n (k.O j).c2.k] 88)).heap.size := by simp; omega
     have bQ := hid (BBn.out.alloc BBn.out.size (.cells #[.int .i64 (k.O j).id, .int .i64 (k.O j).kind, .int .i64 (k.O j).up, .int .i64 (k.O j).b1, .slice (k.O j).c1.a (k.O j).c1.n (k.O j).c1.k, .string (k.O j).data, .slice (k.O j).items.a (k.O j).items.n (k.O j).items.k, .slice (k.O j).own.a (k.O j).own.n (k.O j).own.k, .int .i64 (k.O j).b2, .slice (k.O j).c2.a (k.O j).c2.n (k.O j).c2.k] 88))
     go_wp2_with (at_builtin; refine wpList_appendOwnOb _ rfl _ _ rfl V.heap.size (.slice la l.length lc) l rfl QO.out _ _ (k.O j) rfl QL.out (by omega) sQ ?_; intro a7 c7 w7 o7 g7; have O7 := hid o7; have B7 : Hid (Below V.heap.size V w7) := hid (bQ.out.trans (below_grown g7 sQ (fun j e => (World.ownsRow.lt QO.out j e).1))); clear o7 g7)
     go_roundw
     case rel => exact ⟨j + 1, false, l ++ [k.O j], a7, c7, by have := HLT.out; omega, by go_num, rfl, by simp, addTo_skip AT.out (Int.not_lt.2 HX.out), by rw [show (l ++ [k.O j]).length = l.length + 1 from by simp]; exact O7.out, B7.out⟩
     case measure => have := HLT.out; simp [intOf]; omega
  ·obtain rfl : j = k.on := by omega
   have i1 : ¬ (k.on : Int) < (k.on : Int) := by omega
   have rA := (HA.out.below BB.out).warm
   obtain ⟨r0, r1⟩ := (HR.out.below BB.out).two
   have rf := (HR.out.below BB.out).warm
   cases d with
   | true =>
    have EL : Hid ((insL o (k.oL k.on)).length = l.length ∧ insL o (k.oL k.on) = l) := hid ⟨by rw [AT.out.1], AT.out.1.symm⟩
    go_wp2
    have KB := hid (HA.out.below BB.out)
    have RB := hid ((HR.out.below BB.out).other (Q := w.heap.size) (i := 1) (by omega) (.slice la l.length lc))
    have FO := hid (((OwnOb.set OW.out KB.out (i := 1) (by decide) (.slice la l.length lc)).set RB.out (i := 0) (by decide) (.slice k.ta k.tn k.tk)).set (RB.out.setAt (i := 0) (.slice k.ta k.tn k.tk)) (i := 1) (by decide) (.slice la l.length lc))
    refine bodyPost_ret (ker_results _ _ (w.heap.size + 1 + 1) 4 _ _ Tryz.results94 ((RB.out.setAt (i := 0) _).setAt (i := 1) _) rfl) rfl ⟨la, lc, by rw [EL.out.1], by rw [EL.out.2]; exact FO.out.base HB.out.size, ?_⟩
    iterate 3 refine Below.setCell ?_ (by dsimp only; omega) _
    exact HB.out.trans (BB.out.mono HB.out.size)
   | false =>
    have EL : Hid ((insL o (k.oL k.on)).length = l.length + 1 ∧ insL o (k.oL k.on) = l ++ [o]) := hid (by
     have h : insL o (k.oL k.on) = l ++ [o] := by
      have := insL_none (b := []) AT.out.2
      rw [List.append_nil] at this
      rw [this, AT.out.1]
      rfl
     exact ⟨by rw [h]; simp, h⟩)
    have PO := hid (OW.out.below ((Below.refl _ wr).alloc (Nat.le_refl _) (.cells #[.int .i64 o.id, .int .i64 o.kind, .int .i64 o.up, .int .i64 o.b1, .slice o.c1.a o.c1.n o.c1.k, .string o.data, .slice o.items.a o.items.n o.items.k, .slice o.own.a o.own.n o.own.k, .int .i64 o.b2, .slice o.c2.a o.c2.n o.c2.k] 88)))
    have PL : Hid (LiesC (wr.alloc (.cells #[.int .i64 o.id, .int .i64 o.kind, .int .i64 o.up, .int .i64 o.b1, .slice o.c1.a o.c1.n o.c1.k, .string o.data, .slice o.items.a o.items.n o.items.k, .slice o.own.a o.own.n o.own.k, .int .i64 o.b2, .slice o.c2.a o.c2.n o.c2.k] 88)) (some ⟨wr.heap.size, 0, none⟩) 1 (cells10 [o])) := hid (OwnOb.one wr o)
    have sV : V.heap.size ≤ wr.heap.size := BB.out.size
    have sP : V.heap.size ≤ (wr.alloc (.cells #[.int .i64 o.id, .int .i64 o.kind, .int .i64 o.up, .int .i64 o.b1, .slice o.c1.a o.c1.n o.c1.k, .string o.data, .slice o.items.a o.items.n o.items.k, .slice o.own.a o.own.n o.own.k, .int .i64 o.b2, .slice o.c2.a o.c2.n o.c2.k] 88)).heap.size := by simp; omega
    have bP := hid (BB.out.alloc BB.out.size (.cells #[.int .i64 o.id, .int .i64 o.kind, .int .i64 o.up, .int .i64 o.b1, .slice o.c1.a o.c1.n o.c1.k, .string o.data, .slice o.items.a o.items.n o.items.k, .slice o.own.a o.own.n o.own.k, .int .i64 o.b2, .slice o.c2.a o.c2.n o.c2.k] 88))
    go_wp2_with (at_builtin; refine wpList_appendOwnOb _ rfl _ _ rfl V.heap.size (.slice la l.length lc) l rfl PO.out _ _ o rfl PL.out (by omega) sP ?_; intro a6 c6 w6 ow6 g6; have B6 : Hid (Below V.heap.size V w6) := hid (bP.out.trans (below_grown g6 sP (fun j e => (World.ownsRow.lt PO.out j e).1))); have O6 := hid ow6; clear ow6 g6 a0 a1 o0 o1 o2 o3 o4 o5 o6 o7 o8 o9 r0 r1 rf rA; obtain ⟨a0, a1⟩ := (HA.out.below B6.out).two; have rA := (HA.out.below B6.out).warm; obtain ⟨r0, r1⟩ := (HR.out.below B6.out).two; have rf := (HR.out.below B6.out).warm)
    have KB := hid (HA.out.below B6.out)
    have RB := hid ((HR.out.below B6.out).other (Q := w.heap.size) (i := 1) (by omega) (.slice a6 (l.length + 1) c6))
    have FO := hid (((OwnOb.set O6.out KB.out (i := 1) (by decide) (.slice a6 (l.length + 1) c6)).set RB.out (i := 0) (by decide) (.slice k.ta k.tn k.tk)).set (RB.out.setAt (i := 0) (.slice k.ta k.tn k.tk)) (i := 1) (by decide) (.slice a6 (l.length + 1) c6))
    refine bodyPost_ret (ker_results _ _ (w.heap.size + 1 + 1) 4 _ _ Tryz.results94 ((RB.out.setAt (i := 0) _).setAt (i := 1) _) rfl) rfl ⟨a6, c6, by rw [EL.out.1], by rw [EL.out.1, EL.out.2]; exact FO.out.base HB.out.size, ?_⟩
    iterate 3 refine Below.setCell ?_ (by dsimp only; omega) _
    exact HB.out.trans (B6.out.mono HB.out.size)
end Go.Proofs.YthbmfbnnemgbpaaGreatDoor
