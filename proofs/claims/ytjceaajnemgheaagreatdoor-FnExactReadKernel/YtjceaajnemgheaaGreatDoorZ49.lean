/- FnExactReadKernel: both answer the same, and what else the law needs. -/
import Derived.Test.YtjceaajnemgheaaGreatDoorRM4
import Derived.Test.YtjceaajnemgheaaGreatDoorZ4
import Derived.Test.YtjceaajnemgheaaGreatDoorRows
import Derived.ProofKit
import Derived.OpenShut
import Derived.ShutString
import Derived.ChangeOld
import Derived.ChangeMaps5
import Derived.Lib.SmallJoins
namespace Go.Proofs.YtjceaajnemgheaaGreatDoor
open Go Go.RowKit Go.Deep Go.Maps

theorem kText_empty : kText (kerD [] []) = ByteArray.mk #[] := by
  have : ¬ kerOk (kerD [] []) = true := by
    intro h
    have := (ker_lens h).1
    simp [kerD] at this
  unfold kText
  rw [if_neg this]
set_option maxRecDepth 1000000 in
set_option maxHeartbeats 16000000 in
theorem specReadBig_any (L : List UInt8) (w : World) (hL : ¬ L.length ≤ 500000) :
    Calls Tryz.prog 4 #[.string (bytesOf L)] w fun e w' => KAns none w w' e := by
  have i5 : ¬ ((bytesOf L).size : Int) ≤ 500000 := by rw [bytesOf_size]; omega
  have hne : L ≠ [] := fun e => by rw [e] at hL; simp at hL
  have e0 : (bytesOf L).toList.isEmpty = false := by rw [emptyR]; exact decide_eq_false hne
  have e2 : ((ByteArray.mk #[]).toList == (bytesOf L).toList) = false := by
    rw [ByteArray.toList_eq, ByteArray.toList_eq, bytesOf_list]
    simpa using hne.symm
  have Z1 := hid (Blk.new w (.cells #[.slice none 0 0, .slice none 0 0] 25))
  have Z2 : Hid (Blk ((w.alloc (.cells #[.slice none 0 0, .slice none 0 0] 25)).alloc (.cells #[.slice none 0 0, .slice none 0 0] 25)) (w.heap.size + 1) (.cells #[.slice none 0 0, .slice none 0 0] 25)) := hid (by simpa using Blk.new (w.alloc (.cells #[.slice none 0 0, .slice none 0 0] 25)) (.cells #[.slice none 0 0, .slice none 0 0] 25))
  have B0 := hid (((Below.refl _ w).alloc (Nat.le_refl _) (.cells #[.slice none 0 0, .slice none 0 0] 25)).alloc (by simp) (.cells #[.slice none 0 0, .slice none 0 0] 25))
  have Z3 := hid (Z1.out.alloc (.cells #[.slice none 0 0, .slice none 0 0] 25))
  have CT := hid (fun W => specText_any (kerD [] []) W ⟨Nat.zero_le _, Nat.zero_le _, fun h => absurd h (Nat.lt_irrefl _), fun h => absurd h (Nat.lt_irrefl _)⟩ (fun i hi => absurd hi (Nat.not_lt_zero _)))
  rw [kText_empty] at CT
  have ev : (kerD [] []).val = .agg #[.slice none 0 0, .slice none 0 0] := rfl
  rw [ev] at CT
  clear hL hne Z1 ev
  go_enter Tryz.func4, Tryz.ntmps4
  go_wp2
  go_loopw [5] (fun r wr => r = .string (bytesOf L) ∧ wr = (w.alloc (.cells #[.slice none 0 0, .slice none 0 0] 25)).alloc (.cells #[.slice none 0 0, .slice none 0 0] 25)) (fun _ _ => 0)
  case atStart => exact ⟨rfl, rfl⟩
  case round =>
    obtain ⟨rfl, ew⟩ := hrel
    rw [← ew] at Z2 Z3 B0
    clear ew
    obtain ⟨k0, k1⟩ := Z2.out.two
    go_wp2_with fail
    refine (CT.out wr).mono ?_
    rintro e w1 ⟨rfl, hb1⟩
    have R1 := hid (Z3.out.below hb1)
    have B1 := hid (then_ B0.out hb1)
    have rb := R1.out
    have wf := rb.warm
    obtain ⟨y0, y1⟩ := rb.two
    clear k0 k1 hb1
    go_wp2
    refine bodyPost_ret (results4 _ _ w.heap.size false (.slice none 0 0) (.slice none 0 0) ((rb.setAt (i := 0) _).setAt (i := 1) _) rfl rfl) rfl ?_
    exact ⟨rfl, (B1.out.setCell (Nat.le_refl _) _).setCell (Nat.le_refl _) _⟩
theorem specReadK_any (L : List UInt8) (w : World) : Calls Tryz.prog 4 #[.string (bytesOf L)] w fun e w' => KAns (ansK L) w w' e := by
  unfold ansK
  by_cases h : L.length ≤ 500000
  · rw [if_pos h, ← spec_str]
    exact specReadKernel_any L w h
  · rw [if_neg h]
    exact specReadBig_any L w h
theorem ansK_ok {L : List UInt8} {p : List TD × List OD} (h : ansK L = some p) : kerOk (kerD p.1 p.2) = true := by
  unfold ansK at h
  split at h
  · exact (strK_back h).1
  · cases h
theorem KerV.same.trans2 {k l m : KerV} (h : k.same l) (h' : k.same m) : l.same m := by
  obtain ⟨a1, a2, a3, a4⟩ := h
  obtain ⟨b1, b2, b3, b4⟩ := h'
  refine ⟨b1.trans a1.symm, fun j hj => ?_, b3.trans a3.symm, fun j hj => ?_⟩
  · rw [a1] at hj
    obtain ⟨e1, e2, ⟨e3, e4, e5⟩, e6, ⟨e7, e8, e9⟩, ⟨e10, e11⟩, e12⟩ := a2 j hj
    obtain ⟨i1, i2, ⟨i3, i4, i5⟩, i6, ⟨i7, i8, i9⟩, ⟨i10, i11⟩, i12⟩ := b2 j hj
    exact ⟨i1.trans e1.symm, i2.trans e2.symm, ⟨i3.trans e3.symm, i4.trans e4.symm, i5.trans e5.symm⟩, i6.trans e6.symm, ⟨i7.trans e7.symm, i8.trans e8.symm, i9.trans e9.symm⟩, ⟨i10.trans e10.symm, i11.trans e11.symm⟩, i12.trans e12.symm⟩
  · rw [a3] at hj
    obtain ⟨e1, e2, e3, e4, ⟨e5, e6, e7⟩, e8, ⟨e9, e10⟩, ⟨e11, e12⟩, e13, ⟨e14, e15, e16⟩⟩ := a4 j hj
    obtain ⟨i1, i2, i3, i4, ⟨i5, i6, i7⟩, i8, ⟨i9, i10⟩, ⟨i11, i12⟩, i13, ⟨i14, i15, i16⟩⟩ := b4 j hj
    exact ⟨i1.trans e1.symm, i2.trans e2.symm, i3.trans e3.symm, i4.trans e4.symm, ⟨i5.trans e5.symm, i6.trans e6.symm, i7.trans e7.symm⟩, i8.trans e8.symm, ⟨i9.trans e9.symm, i10.trans e10.symm⟩, ⟨i11.trans e11.symm, i12.trans e12.symm⟩, i13.trans e13.symm, ⟨i14.trans e14.symm, i15.trans e15.symm, i16.trans e16.symm⟩⟩
theorem ker_small {ta oa : Option Addr} {ca co : Nat} {lt : List ThrV} {lo : List ObjV} (h : kerOk (kOf ta ca oa co lt lo) = true) : (0 < lt.length ∧ lt.length ≤ 1000) ∧ (0 < lo.length ∧ lo.length ≤ 1000) ∧ TSmall lt.length (atOwnT lt) ∧ OSmall lo.length (atOwnOb lo) := by
  obtain ⟨l1, l2, l3⟩ := ker_lens h
  have l4 := (objsOk_out (kerOk_objs h)).1
  have l1' : 1 ≤ lt.length := l1
  have l2' : lt.length ≤ 9 := l2
  have l3' : lo.length ≤ 271 := l3
  have l4' : 1 ≤ lo.length := l4
  refine ⟨⟨by omega, by omega⟩, ⟨by omega, by omega⟩, fun j hj => ?_, fun j hj => ?_⟩
  · obtain ⟨_, _, a, b, c⟩ := thr_small (ker_thr h (i := j) hj)
    have a' := (lab_small a).2.1
    have b' := (lab_small b).2.1
    have c' := (own_small c).1
    exact ⟨Nat.le_trans a' (by omega), Nat.le_trans b' (by omega), Nat.le_trans c' (by omega)⟩
  · obtain ⟨a, b, c, _, d, _, _⟩ := obj_parts (ker_obj h (i := j) hj)
    have a' := (lab_small a).2.1
    have b' := (lab_small b).2.1
    have c' := (own_small c).1
    exact ⟨Nat.le_trans a' (by omega), Nat.le_trans d (by omega), Nat.le_trans c' (by omega), Nat.le_trans b' (by omega)⟩
theorem mark0 (w : World) : Calls Tryz.prog 7 #[.agg #[.slice none 0 0, .slice none 0 0], .int .i64 1] w fun e w' => e = .returned (.int .i64 1) ∧ Below w.heap.size w w' := by
  have a1 : Hid (∀ W, Calls Tryz.prog 18 #[.slice none 0 0, .int .i64 1] W fun e w' => e = .returned (.int .i64 1) ∧ w' = W) := hid (fun W => by
    go_enter Tryz.func18, Tryz.ntmps18
    go_wp2
    go_loop [1, 5] (fun kk i => i = .int .i64 0 ∧ kk = .int .i64 1) (fun _ _ => 0)
    case atStart => exact ⟨rfl, rfl⟩
    case round =>
      obtain ⟨rfl, rfl⟩ := hrel
      go_wp2
      go_ret
      exact ⟨rfl, rfl⟩)
  have a2 : Hid (∀ W, Calls Tryz.prog 19 #[.slice none 0 0, .int .i64 1] W fun e w' => e = .returned (.int .i64 1) ∧ w' = W) := hid (fun W => by
    go_enter Tryz.func19, Tryz.ntmps19
    go_wp2
    go_loop [1, 5] (fun kk i => i = .int .i64 0 ∧ kk = .int .i64 1) (fun _ _ => 0)
    case atStart => exact ⟨rfl, rfl⟩
    case round =>
      obtain ⟨rfl, rfl⟩ := hrel
      go_wp2
      go_ret
      exact ⟨rfl, rfl⟩)
  have b0 : Below w.heap.size w (w.alloc (.cells #[.slice none 0 0, .slice none 0 0] 25)) := (Below.refl _ w).alloc (Nat.le_refl _) _
  have A0 := Blk.new w (.cells #[.slice none 0 0, .slice none 0 0] 25)
  obtain ⟨x0, x1⟩ := A0.two
  go_enter Tryz.func7, Tryz.ntmps7
  go_wp2_with fail
  refine (a1.out _).mono ?_
  rintro e w1 ⟨rfl, rfl⟩
  go_wp2_with fail
  refine (a2.out _).mono ?_
  rintro e w2 ⟨rfl, rfl⟩
  go_wp2
  go_ret
  exact ⟨rfl, b0⟩
theorem held0 (w : World) : Calls Tryz.prog 8 #[.agg #[.slice none 0 0, .slice none 0 0], .int .i64 1] w fun e w' => e = .returned (.int .i64 1) ∧ Below w.heap.size w w' := by
  have a1 : Hid (∀ W, Calls Tryz.prog 20 #[.slice none 0 0, .int .i64 1] W fun e w' => e = .returned (.int .i64 1) ∧ w' = W) := hid (fun W => by
    go_enter Tryz.func20, Tryz.ntmps20
    go_wp2
    go_loop [1, 5] (fun kk i => i = .int .i64 0 ∧ kk = .int .i64 1) (fun _ _ => 0)
    case atStart => exact ⟨rfl, rfl⟩
    case round =>
      obtain ⟨rfl, rfl⟩ := hrel
      go_wp2
      go_ret
      exact ⟨rfl, rfl⟩)
  have a2 : Hid (∀ W, Calls Tryz.prog 21 #[.slice none 0 0, .int .i64 1] W fun e w' => e = .returned (.int .i64 1) ∧ w' = W) := hid (fun W => by
    go_enter Tryz.func21, Tryz.ntmps21
    go_wp2
    go_loop [1, 5] (fun kk i => i = .int .i64 0 ∧ kk = .int .i64 1) (fun _ _ => 0)
    case atStart => exact ⟨rfl, rfl⟩
    case round =>
      obtain ⟨rfl, rfl⟩ := hrel
      go_wp2
      go_ret
      exact ⟨rfl, rfl⟩)
  have b0 : Below w.heap.size w (w.alloc (.cells #[.slice none 0 0, .slice none 0 0] 25)) := (Below.refl _ w).alloc (Nat.le_refl _) _
  have A0 := Blk.new w (.cells #[.slice none 0 0, .slice none 0 0] 25)
  obtain ⟨x0, x1⟩ := A0.two
  go_enter Tryz.func8, Tryz.ntmps8
  go_wp2_with fail
  refine (a1.out _).mono ?_
  rintro e w1 ⟨rfl, rfl⟩
  go_wp2_with fail
  refine (a2.out _).mono ?_
  rintro e w2 ⟨rfl, rfl⟩
  go_wp2
  go_ret
  exact ⟨rfl, b0⟩
theorem eq0 (w : World) : Calls Tryz.prog 6 #[.agg #[.slice none 0 0, .slice none 0 0], .agg #[.slice none 0 0, .slice none 0 0]] w fun e w' => e = .returned (.bool true) ∧ Below w.heap.size w w' :=
  eqKernel_v (kerD [] []) (kerD [] []) w ⟨Nat.zero_le _, Nat.zero_le _, fun h => absurd h (Nat.lt_irrefl _), fun h => absurd h (Nat.lt_irrefl _)⟩ ⟨Nat.zero_le _, Nat.zero_le _, fun h => absurd h (Nat.lt_irrefl _), fun h => absurd h (Nat.lt_irrefl _)⟩ ⟨rfl, fun _ hj => absurd hj (Nat.not_lt_zero _), rfl, fun _ hj => absurd hj (Nat.not_lt_zero _)⟩
end Go.Proofs.YtjceaajnemgheaaGreatDoor
namespace Go.Proofs.YtjceaajnemgheaaGreatDoor
open Go Go.RowKit Go.Deep Go.Maps

theorem KM.below {w w' : World} {B g h mg mh : Nat} {lt : List ThrV} {lo : List ObjV} (k : KM w B g h mg mh lt lo) (hb : Below w.heap.size w w') : KM w' B g h mg mh lt lo := by
  obtain ⟨a1, a2, a3, a4, a5, a6, a7, a8, a9, a10, ⟨G, r1, r2⟩, ⟨H, q1, q2⟩, a13, a14, a15, a16⟩ := k
  exact ⟨a1, a2, a3, a4, a5, a6, a7, a8, fun i hi => (a9 i hi).keeps (KeepsK.of_below hb).l, fun i hi => (a10 i hi).keeps (KeepsK.of_below hb).l, ⟨G, rowUp r1 hb, r2⟩, ⟨H, rowUp q1 hb, q2⟩, a13, a14, a15, a16⟩
theorem Err.low {u : TypeId} {pv : Value} {w w' : World} {B : Nat} (h : Err u pv w) (hb : Below B w w') (hB : 0 < B) : Err u pv w' := ⟨by
  rw [← h.1]
  unfold World.cell?
  rw [hb.block 0 hB], Nat.lt_of_lt_of_le h.2 hb.size⟩
set_option maxRecDepth 1000000 in
set_option maxHeartbeats 16000000 in
theorem exactReadKernel_walk (u : TypeId) (pv : Value) (L : List UInt8) (w : World) (hE : Err u pv w) :
    Calls Tryz.prog 3 #[.string (bytesOf L)] w fun e w' => e = .returned (.bool true) ∧ Below w.heap.size w w' := by
  have s1 := bytesOf_size L
  by_cases hL : L.length ≤ 1048576
  rotate_left
  · have i5 : (1048576 : Int) < ((bytesOf L).size : Int) := by rw [s1]; omega
    clear s1
    go_enter Tryz.func3, Tryz.ntmps3
    go_wp2
    go_ret
    exact ⟨rfl, Below.refl _ _⟩
  have i5 : ¬ (1048576 : Int) < ((bytesOf L).size : Int) := by rw [s1]; omega
  clear s1
  have HE := hid hE
  have SP := hid (specReadK_any L w)
  clear hE
  cases hr : ansK L with
  | none =>
    rw [hr] at SP
    have IM : Hid (∀ W, Err u pv W → Calls Tryz.prog 5 #[.string (bytesOf L)] W fun e w' => IKPost none W e w') := hid (fun W hW => by rw [← hr]; exact implReadKernel_any u pv L W hW hL)
    clear hr
    go_enter Tryz.func3, Tryz.ntmps3
    go_wp2_with fail
    refine SP.out.mono ?_
    rintro e w1 ⟨rfl, hb1⟩
    have a1 := (Below.refl _ w1).alloc (Nat.le_refl _) (.cells #[.slice none 0 0, .slice none 0 0] 25)
    have B1 := hid (then_ hb1 a1)
    have P1 := hid (Blk.new w1 (.cells #[.slice none 0 0, .slice none 0 0] 25))
    have E1 := hid (HE.out.below B1.out)
    clear SP hb1 a1
    go_wp2_with fail
    refine (IM.out _ E1.out).mono ?_
    rintro e w2 ⟨rfl, hb2⟩
    have a2 := (Below.refl _ w2).alloc (Nat.le_refl _) (.cells #[.slice none 0 0, .slice none 0 0] 25)
    have B2 := hid (then_ (then_ B1.out hb2) a2)
    have P2 := hid ((P1.out.below hb2).below a2)
    have Q2 := hid (Blk.new w2 (.cells #[.slice none 0 0, .slice none 0 0] 25))
    clear P1 E1 B1 hb2 a2
    obtain ⟨p0, p1⟩ := P2.out.two
    obtain ⟨q0, q1⟩ := Q2.out.two
    go_wp2_with fail
    refine (eq0 _).mono ?_
    rintro e w3 ⟨rfl, hb3⟩
    have B3 := hid (then_ B2.out hb3)
    have P3 := hid (P2.out.below hb3)
    have Q3 := hid (Q2.out.below hb3)
    clear p0 p1 q0 q1 P2 Q2 B2 hb3
    obtain ⟨q0, q1⟩ := Q3.out.two
    go_wp2_with fail
    refine (mark0 _).mono ?_
    rintro e w4 ⟨rfl, hb4⟩
    have B4 := hid (then_ B3.out hb4)
    have P4 := hid (P3.out.below hb4)
    have Q4 := hid (Q3.out.below hb4)
    clear q0 q1 P3 Q3 B3 hb4
    obtain ⟨q0, q1⟩ := Q4.out.two
    go_wp2_with fail
    refine (held0 _).mono ?_
    rintro e w5 ⟨rfl, hb5⟩
    have B5 := hid (then_ B4.out hb5)
    have P5 := hid (P4.out.below hb5)
    have Q5 := hid (Q4.out.below hb5)
    have E5 := hid (HE.out.below B5.out)
    clear q0 q1 P4 Q4 B4 hb5
    go_wp2_with fail
    refine (IM.out _ E5.out).mono ?_
    rintro e w6 ⟨rfl, hb6⟩
    have a6 := (Below.refl _ w6).alloc (Nat.le_refl _) (.cells #[.slice none 0 0, .slice none 0 0] 25)
    have B6 := hid (then_ (then_ B5.out hb6) a6)
    have P6 := hid ((P5.out.below hb6).below a6)
    have Q6 := hid ((Q5.out.below hb6).below a6)
    have R6 := hid (Blk.new w6 (.cells #[.slice none 0 0, .slice none 0 0] 25))
    clear P5 Q5 B5 E5 hb6 a6
    obtain ⟨p0, p1⟩ := P6.out.two
    obtain ⟨r0, r1⟩ := R6.out.two
    go_wp2_with fail
    refine (eq0 _).mono ?_
    rintro e w7 ⟨rfl, hb7⟩
    have B7 := hid (then_ B6.out hb7)
    have Q7 := hid (Q6.out.below hb7)
    clear p0 p1 r0 r1 P6 Q6 R6 B6 hb7
    obtain ⟨q0, q1⟩ := Q7.out.two
    go_wp2_with fail
    refine (held0 _).mono ?_
    rintro e w8 ⟨rfl, hb8⟩
    have B8 := hid (then_ B7.out hb8)
    clear q0 q1 Q7 B7 hb8
    go_wp2
    go_ret
    exact ⟨rfl, B8.out⟩
  | some p =>
    rw [hr] at SP
    have OK := hid (ansK_ok hr)
    have IM : Hid (∀ W, Err u pv W → Calls Tryz.prog 5 #[.string (bytesOf L)] W fun e w' => IKPost (some p) W e w') := hid (fun W hW => by rw [← hr]; exact implReadKernel_any u pv L W hW hL)
    clear hr
    go_enter Tryz.func3, Tryz.ntmps3
    go_wp2_with fail
    refine SP.out.mono ?_
    rintro e w1 ⟨sa, sb, sc, sd, slt, slo, rfl, hat0, hsm0, hb1⟩
    have a1 := (Below.refl _ w1).alloc (Nat.le_refl _) (.cells #[.slice sa slt.length sc, .slice sb slo.length sd] 25)
    have B1 := hid (then_ hb1 a1)
    have P1 := hid (Blk.new w1 (.cells #[.slice sa slt.length sc, .slice sb slo.length sd] 25))
    have E1 := hid (HE.out.below B1.out)
    have AT1 := hid (hat0.below a1)
    have SM0 := hid hsm0
    clear SP hb1 a1 hat0 hsm0
    go_wp2_with fail
    generalize w1.alloc (.cells #[.slice sa slt.length sc, .slice sb slo.length sd] 25) = W1 at *
    generalize w1.heap.size = pa at *
    refine (IM.out _ E1.out).mono ?_
    rintro e w2 ⟨ga, gb, gc, gd, glt, glo, rfl, hK, hA, hD, n1, n2, hsm, hb2⟩
    have okg : kerOk (kOf ga gc gb gd glt glo) = true := by rw [kerOk_same hsm]; exact OK.out
    obtain ⟨z1, z2, z3, z4⟩ := ker_small okg
    have hatg := hK.at n1 n2 hD
    obtain ⟨tg, th, rfl, rfl, hKM⟩ := KM.of hK hA hatg z1 z2 z3 z4
    have a2 := (Below.refl _ w2).alloc (Nat.le_refl _) (.cells #[.slice (some ⟨tg, 0, none⟩) glt.length gc, .slice (some ⟨th, 0, none⟩) glo.length gd] 25)
    have B2 := hid (then_ hb2 a2)
    have P2 := hid ((P1.out.below hb2).below a2)
    have Q2 := hid (Blk.new w2 (.cells #[.slice (some ⟨tg, 0, none⟩) glt.length gc, .slice (some ⟨th, 0, none⟩) glo.length gd] 25))
    have AT2 := hid ((AT1.out.below hb2).below a2)
    have AG2 := hid (hatg.below a2)
    have KM2 := hid (hKM.below a2)
    have SMG := hid hsm
    have hq2 : W1.heap.size ≤ w2.heap.size := hb2.size
    have p1l := P1.out.lt
    clear P1 E1 hb2 a2 hK hA hD hsm okg hatg hKM n1 n2
    obtain ⟨p0, p1⟩ := P2.out.two
    obtain ⟨q0, q1⟩ := Q2.out.two
    have EQ := hid (eqKernel_v (kOf (some ⟨tg, 0, none⟩) gc (some ⟨th, 0, none⟩) gd glt glo) (kOf sa sc sb sd slt slo) _ AG2.out AT2.out (SMG.out.trans2 SM0.out))
    unfold KerV.val kOf at EQ
    go_wp2_with fail
    refine EQ.out.mono ?_
    rintro e w3 ⟨rfl, hb3⟩
    have B3 := hid (then_ B2.out hb3)
    have P3 := hid (P2.out.below hb3)
    have Q3 := hid (Q2.out.below hb3)
    have KM3 := hid (KM2.out.below hb3)
    clear p0 p1 q0 q1 P2 Q2 KM2 AT2 AG2 EQ hb3
    obtain ⟨q0, q1⟩ := Q3.out.two
    have MK := hid (markKernel_m W1.heap.size tg th (gc * 7) (gd * 10) gc gd glt glo w3 KM3.out B3.out.size)
    go_wp2_with fail
    refine MK.out.mono ?_
    rintro e w4 ⟨rfl, km4, bl4, stay⟩
    have B4 := hid (B3.out.trans bl4)
    have P4 := hid (stay _ _ P3.out)
    have Q4 := hid (stay _ _ Q3.out)
    have KM4 := hid km4
    have kp : ¬ kEnd glt glo < 0 := by
      have t1 := tSt_le (k0 := 1) z3 glt.length (Nat.le_refl _)
      have t2 := oSt_le (k0 := tSt (atOwnT glt) 1 glt.length) z4 glo.length (Nat.le_refl _)
      unfold kEnd
      omega
    have lgg := KM3.out.lg
    have lhh := KM3.out.lh
    have HL : Hid (∀ W, KMk W tg th (gc * 7) (gd * 10) glt glo → Calls Tryz.prog 8 #[.agg #[.slice (some ⟨tg, 0, none⟩) glt.length gc, .slice (some ⟨th, 0, none⟩) glo.length gd], .int .i64 1] W fun e w' => e = .returned (.int .i64 (kEnd glt glo)) ∧ Below W.heap.size W w') := hid (fun W hW => heldKernel_h tg th (gc * 7) (gd * 10) gc gd glt glo W hW lgg lhh z3 z4)
    clear q0 q1 P3 Q3 KM3 MK B3 bl4 stay km4 lgg lhh
    generalize kEnd glt glo = kz at *
    obtain ⟨q0, q1⟩ := Q4.out.two
    go_wp2_with fail
    refine (HL.out _ KM4.out).mono ?_
    rintro e w5 ⟨rfl, hb5⟩
    have B5 := hid (then_ B4.out hb5)
    have P5 := hid (P4.out.below hb5)
    have Q5 := hid (Q4.out.below hb5)
    have KM5 := hid (KM4.out.below hb5)
    have E5 := hid (HE.out.below (then_ B1.out B5.out))
    clear q0 q1 P4 Q4 KM4 B4 hb5
    go_wp2_with fail
    refine (IM.out _ E5.out).mono ?_
    rintro e w6 ⟨ha, hb, hc, hd, hlt, hlo, rfl, hK6, hA6, hD6, m1, m2, hsm6, hb6⟩
    have a6 := (Below.refl _ w6).alloc (Nat.le_refl _) (.cells #[.slice ha hlt.length hc, .slice hb hlo.length hd] 25)
    have B6 := hid (then_ (then_ B5.out hb6) a6)
    have P6 := hid ((P5.out.below hb6).below a6)
    have Q6 := hid ((Q5.out.below hb6).below a6)
    have R6 := hid (Blk.new w6 (.cells #[.slice ha hlt.length hc, .slice hb hlo.length hd] 25))
    have KM6 := hid ((KM5.out.below hb6).below a6)
    have AH6 := hid ((hK6.at m1 m2 hD6).below a6)
    have AT6 := hid (AT1.out.below B6.out)
    have SMH := hid hsm6
    clear P5 Q5 KM5 B5 E5 hb6 a6 hK6 hA6 hD6 hsm6 m1 m2
    obtain ⟨p0, p1⟩ := P6.out.two
    obtain ⟨r0, r1⟩ := R6.out.two
    have EQ := hid (eqKernel_v (kOf ha hc hb hd hlt hlo) (kOf sa sc sb sd slt slo) _ AH6.out AT6.out (SMH.out.trans2 SM0.out))
    unfold KerV.val kOf at EQ
    go_wp2_with fail
    refine EQ.out.mono ?_
    rintro e w7 ⟨rfl, hb7⟩
    have B7 := hid (then_ B6.out hb7)
    have Q7 := hid (Q6.out.below hb7)
    have KM7 := hid (KM6.out.below hb7)
    clear p0 p1 r0 r1 P6 Q6 R6 KM6 AH6 AT6 B6 EQ hb7
    obtain ⟨q0, q1⟩ := Q7.out.two
    go_wp2_with fail
    refine (HL.out _ KM7.out).mono ?_
    rintro e w8 ⟨rfl, hb8⟩
    have B8 := hid (then_ B1.out (then_ B7.out hb8))
    clear q0 q1 Q7 KM7 B7 hb8
    go_wp2
    go_ret
    exact ⟨rfl, B8.out⟩
theorem exactReadKernel_walkS (u : TypeId) (pv : Value) (s : ByteArray) (w : World) (hE : Err u pv w) :
    Calls Tryz.prog 3 #[.string s] w fun e w' => e = .returned (.bool true) ∧ Below w.heap.size w w' := by
  have := exactReadKernel_walk u pv s.data.toList w hE
  have e : bytesOf s.data.toList = s := bytes_eta s
  rw [e] at this
  exact this
end Go.Proofs.YtjceaajnemgheaaGreatDoor
namespace Go.Proofs.YtjceaajnemgheaaGreatDoor
open Go.ChangeShapes Go.WideShapes Go.ChangeAt Go.RowKit Go.Deep Go.Joins

theorem Tryz.ownKnob : Go.ownKnob Tryz.prog.godebug = none := by kernel_rfl
theorem Tryz.laidOut : laidOutB Tryz.prog = true := by kernel_rfl
end Go.Proofs.YtjceaajnemgheaaGreatDoor
