/- An op done to files, for the model: the walk. -/
import Derived.Test.YtcchpeebhkiacaaDJ
namespace Go.Proofs.Ytcchpeebhkiacaa
open Go Go.RowKit Go.Deep Go.Maps

theorem OwnF.base {w : World} {B B' : Nat} {v : Value} {l : List FileV} (h : OwnF w B v l) (hB : B' ≤ B) : OwnF w B' v l := by
  refine ⟨h.1, ?_⟩
  rcases h.2 with hx | ⟨gb, cap, cur, e, hc, h3, h4, h5⟩
  · exact .inl hx
  · exact .inr ⟨gb, cap, cur, e, Nat.le_trans hB hc, h3, h4, h5⟩
theorem OwnF.shape {w : World} {B : Nat} {v : Value} {l : List FileV} (h : OwnF w B v l) : ∃ a c, v = .slice a l.length c := ownsRow_shape h
theorem OwnF.below {w w' : World} {B : Nat} {v : Value} {l : List FileV} (h : OwnF w B v l) (hb : Below w.heap.size w w') : OwnF w' B v l :=
  World.ownsRow.kept h (row := none) ⟨hb.os, hb.tape, hb.output, hb.size, fun k hk _ => hb.block k hk⟩ (by
    cases v.ownBlock <;> simp)
theorem Blk.four {W : World} {P t : Nat} {x y z u : Value} (h : Blk W P (.cells #[x, y, z, u] t)) : W.cell? ⟨P, 0, none⟩ = some x ∧ W.cell? ⟨P, 1, none⟩ = some y ∧ W.cell? ⟨P, 2, none⟩ = some z ∧ W.cell? ⟨P, 3, none⟩ = some u := by
  unfold Blk at h
  simp [World.cell?, h]

set_option maxRecDepth 100000 in
set_option maxHeartbeats 8000000 in
theorem l11Do_any (l : FileL) (o : OpV) (w : World) (hl : l.at w) (hn : l.n ≤ 1048576) (hz : ∀ i, i < l.n → (l.f i).data.size ≤ 1000000000) (hd : o.data.size ≤ 1000000000) :
    Calls Try.prog 28 #[l.val, o.val] w fun e w' => ∃ v, e = .returned (.tuple #[v, .bool (doF l.n l.f o).2]) ∧ OwnF w' w.heap.size v (doF l.n l.f o).1 ∧ Below w.heap.size w w' := by
  have b0 : Below w.heap.size w (w.alloc (.cells #[.int .i64 o.kind, .string o.name, .string o.to, .string o.data] 36)) := (Below.refl _ w).alloc (Nat.le_refl _) _
  have A0 := Blk.new w (.cells #[.int .i64 o.kind, .string o.name, .string o.to, .string o.data] 36)
  have HL := hid hl
  have HZ := hid hz
  have C1 := hid (l11At_any l o.name _ (hl.below b0))
  clear hl hz
  unfold FileL.val at C1
  unfold FileL.val OpV.val
  obtain ⟨x0, x1, x2, x3⟩ := A0.four
  go_enter Try.func28, Try.ntmps28
  go_wp2_with fail
  refine C1.out.mono ?_
  rintro e w1 ⟨r, rfl, hr, hb1⟩
  have A1 := A0.below hb1
  have B1 := then_ b0 hb1
  have HL1 := hid (HL.out.below B1)
  have lo1 := B1.size
  clear x0 x1 x2 x3 C1 A0 b0 hb1
  obtain ⟨x0, x1, x2, x3⟩ := A1.four
  by_cases k1 : o.kind = 1
  · have E1 : Hid (doF l.n l.f o = (putF l.n l.f o.name (addD (lookF l.n l.f o.name) o.data), true)) := hid (by rw [doF, if_pos k1])
    rcases hr with ⟨i, hi, rfl, hnm, hbe⟩ | ⟨rfl, hno⟩
    · have EL := hid (lookF_some hi hnm hbe)
      rw [EL.out] at E1
      have z0 := HZ.out i hi
      have rr : ¬ 9223372036854775807 < (l.f i).data.size + o.data.size := by omega
      clear hnm hbe EL
      obtain ⟨b, off, ea, hlt, hcc⟩ := HL1.out.2.1 (by omega)
      have g2 := (hcc i hi).2
      have i0 : (0 : Int) ≤ (i : Int) := by omega
      have i1 : (i : Int) < (l.n : Int) := by omega
      have C2 := hid (l11Put_any l o.name ((l.f i).data ++ o.data) w1 HL1.out hn)
      unfold FileL.val at C2
      rw [ea] at C2 ⊢
      clear hcc ea
      go_wp2_with fail
      refine C2.out.mono ?_
      rintro e w2 ⟨v, rfl, o2, hb2⟩
      have B2 := then_ B1 hb2
      have O2 := hid (o2.base lo1)
      clear x0 x1 x2 x3 C2 hb2 o2
      go_wp2
      refine bodyPost_ret (v := .tuple #[v, .bool true]) (by simp [results, Try.results28, go_sem]) rfl ⟨_, by rw [E1.out], by rw [E1.out]; exact O2.out, B2⟩
    · have EL := hid (lookF_none hno)
      rw [EL.out] at E1
      clear hno EL
      have C2 := hid (l11Put_any l o.name o.data w1 HL1.out hn)
      unfold FileL.val at C2
      go_wp2_with fail
      refine C2.out.mono ?_
      rintro e w2 ⟨v, rfl, o2, hb2⟩
      have B2 := then_ B1 hb2
      have O2 := hid (o2.base lo1)
      clear x0 x1 x2 x3 C2 hb2 o2
      go_wp2
      refine bodyPost_ret (v := .tuple #[v, .bool true]) (by simp [results, Try.results28, go_sem]) rfl ⟨_, by rw [E1.out], by rw [E1.out]; exact O2.out, B2⟩
  · rcases hr with ⟨i, hi, rfl, hnm, hbe⟩ | ⟨rfl, hno⟩
    · have EL := hid (lookF_some hi hnm hbe)
      have E1 : Hid (doF l.n l.f o = (if o.kind = 2 then putF (cutTo l.f o.name l.n).length (fileAt (cutTo l.f o.name l.n)) o.to (l.f i).data else cutTo l.f o.name l.n, true)) := hid (by rw [doF, if_neg k1, EL.out])
      clear hnm hbe EL
      have i2 : ¬ (i : Int) < 0 := by omega
      have C2 := hid (l11Cut_any l o.name w1 HL1.out hn)
      unfold FileL.val at C2
      go_wp2_with fail
      refine C2.out.mono ?_
      rintro e w2 ⟨v, rfl, o2, hb2⟩
      have A2 := A1.below hb2
      have B2 := then_ B1 hb2
      have O2 := hid (o2.base lo1)
      clear x0 x1 x2 x3 C2 o2 A1
      obtain ⟨x0, x1, x2, x3⟩ := A2.four
      by_cases k2 : o.kind = 2
      · rw [if_pos k2] at E1
        obtain ⟨b, off, ea, hlt, hcc⟩ := (HL1.out.below hb2).2.1 (by omega)
        have g2 := (hcc i hi).2
        have i0 : (0 : Int) ≤ (i : Int) := by omega
        have i1 : (i : Int) < (l.n : Int) := by omega
        obtain ⟨va, vc, rfl⟩ := O2.out.shape
        have lc := cutTo_len l.f o.name l.n
        have HW : Hid (∀ x ∈ cutTo l.f o.name l.n, x.wf) := hid (fun x hx => by obtain ⟨j, hj, rfl⟩ := mem_cutTo hx; exact HL.out.2.2 j hj)
        have C3 : Hid (∀ W, Below w2.heap.size w2 W → Calls Try.prog 54 #[.slice va (cutTo l.f o.name l.n).length vc, .string o.to, .string (l.f i).data] W fun e w' => ∃ v, e = .returned v ∧ OwnF w' W.heap.size v (putF (cutTo l.f o.name l.n).length (fileAt (cutTo l.f o.name l.n)) o.to (l.f i).data) ∧ Below W.heap.size W w') := hid (fun W hW => l11Put_any ⟨va, (cutTo l.f o.name l.n).length, vc, fileAt (cutTo l.f o.name l.n)⟩ o.to (l.f i).data W ((O2.out.below hW).at (by omega) HW.out) (by show (cutTo l.f o.name l.n).length ≤ _; omega))
        generalize putF (cutTo l.f o.name l.n).length (fileAt (cutTo l.f o.name l.n)) o.to (l.f i).data = RES at *
        generalize (cutTo l.f o.name l.n).length = LEN at *
        rw [ea]
        clear hcc ea O2 HW lc
        have lo2 := B2.size
        go_wp2_with fail
        go_region_held3 (fun w' => w'.cell? ⟨w.heap.size, 2, none⟩ = some (.string o.to) ∧ w'.cell? ⟨b, off + i * 2 + 1, none⟩ = some (.string (l.f i).data)) (first | go_keep | (simp only [*, and_self]))
          (first | (go_at_call 54; refine (C3.out _ (Below.refl _ w2).drew).mono ?_; rintro e w3 ⟨v3, rfl, o3, hb3⟩; have q2 := (hb3.cell (p := ⟨w.heap.size, 2, none⟩) A2.lt).trans x2; have q3 := (hb3.cell (p := ⟨b, off + i * 2 + 1, none⟩) hlt).trans g2))
        have B3 : Below w.heap.size w w3 := B2.drew.trans (hb3.mono lo2)
        have O3 := hid (o3.base lo2)
        clear x0 x1 x2 x3 g2 q2 q3 C3 o3 hb3
        go_wp2
        refine bodyPost_ret (v := .tuple #[v3, .bool true]) (by simp [results, Try.results28, go_sem]) rfl ⟨_, by rw [E1.out], by rw [E1.out]; exact O3.out, B3⟩
      · rw [if_neg k2] at E1
        go_wp2
        refine bodyPost_ret (v := .tuple #[v, .bool true]) (by simp [results, Try.results28, go_sem]) rfl ⟨_, by rw [E1.out], by rw [E1.out]; exact O2.out, B2⟩
    · have EL := hid (lookF_none hno)
      have E1 : Hid (doF l.n l.f o = ((List.range l.n).map l.f, false)) := hid (by rw [doF, if_neg k1, EL.out])
      clear hno EL
      have O0 := OwnF.made w1 w.heap.size lo1
      have FL := hid (HL1.out.2.1.filL)
      obtain ⟨R, hR⟩ : ∃ R : List FileV, R = (List.range l.n).map l.f := ⟨_, rfl⟩
      have lR : Hid (R.length = l.n) := hid (by rw [hR]; simp)
      have lR' : R.length ≤ 4194304 := by rw [lR.out]; omega
      rw [← hR] at E1 FL
      clear hR x1 x2 x3
      have bx : Below w1.heap.size w1 (w1.alloc (.cells #[] 56)) := (Below.refl _ w1).alloc (Nat.le_refl _) _
      go_wp2_with (at_builtin; refine wpList_append_files _ rfl _ _ rfl w.heap.size (.slice (some ⟨w1.heap.size, 0, none⟩) 0 0) [] rfl O0 _ _ _ R rfl lR.out (FL.out.below bx) R (by simp) lR' (by simp; omega) ?_; intro a2 c2 w2 o2 q2 h2; have B2 : Below w.heap.size w w2 := (then_ B1 bx).trans (below_grown q2 (by simp; omega) O0.low))
      refine bodyPost_ret (v := .tuple #[.slice a2 R.length c2, .bool false]) (by simp [results, Try.results28, go_sem]) rfl ⟨_, by rw [E1.out], by rw [E1.out]; exact o2, B2⟩
end Go.Proofs.Ytcchpeebhkiacaa
