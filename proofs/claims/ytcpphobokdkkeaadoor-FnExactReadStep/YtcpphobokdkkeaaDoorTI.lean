/- FnExactReadStep: the walk: the law answers true at every text. -/
import Derived.Test.YtcpphobokdkkeaaDoorTH
namespace Go.Proofs.YtcpphobokdkkeaaDoor
open Go Go.RowKit Go.Deep Go.Maps

theorem readS_len (L : List UInt8) : (readS L).l1.length ≤ 12 ∧ (readS L).l2.length ≤ 12 := by
  unfold readS
  split
  · simp only [yesS]
    exact ⟨readL_len _, readL_len _⟩
  · simp [noS]

set_option maxRecDepth 100000 in
set_option maxHeartbeats 4000000 in
theorem exactReadStep_walk (u : TypeId) (pv : Value) (s : ByteArray) (w : World) (hs : s.size ≤ maxLen) (hE : Err u pv w) :
    Calls Tryd.prog 4 #[.string s] w fun e w' => e = .returned (.bool true) ∧ Below w.heap.size w w' := by
  unfold maxLen at hs
  by_cases hbig : 1048576 < s.size
  · have hbig' : (1048576 : Int) < (s.size : Int) := by omega
    go_enter Tryd.func4, Tryd.ntmps4
    go_wp2
    go_ret
    exact ⟨rfl, Below.refl _ _⟩
  have hbig' : ¬ (1048576 : Int) < (s.size : Int) := by omega
  have hn : s.size ≤ 1048576 := by omega
  obtain ⟨hl1, hl2⟩ := readS_len s.data.toList
  have IR : Hid (∀ v : World, Err u pv v → Calls Tryd.prog 11 #[.string s] v (IPost (readS s.data.toList) v)) := fun v hv => implReadStep_any u pv s.data.toList v (by simpa using hn) hv
  have SR : Hid (∀ v : World, Calls Tryd.prog 10 #[.string s] v (SPost (readS s.data.toList) v)) := fun v => specReadStep_any s v hn
  have EE := hid hE
  generalize readS s.data.toList = r at *
  have ml1 : r.l1.length ≤ maxLen := by unfold maxLen; omega
  have ml2 : r.l2.length ≤ maxLen := by unfold maxLen; omega
  clear hE
  go_enter Tryd.func4, Tryd.ntmps4
  go_wp2_with fail
  refine (SR.out w).mono ?_
  rintro e w1 ⟨p1, m1, p2, m2, rfl, pc1, pc2, hb1⟩
  unfold StepR.val
  have X1 := (Below.refl _ w1).alloc (Nat.le_refl _) (.cells #[.int .i64 r.th, .int .i64 r.kind, .int .i64 r.id, .int .i64 r.to', .int .i64 r.cat, .string r.d, .int .i64 r.b1, .slice p1 r.l1.length m1, .int .i64 r.b2, .slice p2 r.l2.length m2] 33)
  have P := hid (Blk.new w1 (.cells #[.int .i64 r.th, .int .i64 r.kind, .int .i64 r.id, .int .i64 r.to', .int .i64 r.cat, .string r.d, .int .i64 r.b1, .slice p1 r.l1.length m1, .int .i64 r.b2, .slice p2 r.l2.length m2] 33))
  have PC1 := hid (pc1.below X1)
  have PC2 := hid (pc2.below X1)
  have L := hid (hb1.alloc hb1.size (.cells #[.int .i64 r.th, .int .i64 r.kind, .int .i64 r.id, .int .i64 r.to', .int .i64 r.cat, .string r.d, .int .i64 r.b1, .slice p1 r.l1.length m1, .int .i64 r.b2, .slice p2 r.l2.length m2] 33))
  clear SR pc1 pc2 hb1 X1
  go_wp2_with fail
  generalize w1.alloc (.cells #[.int .i64 r.th, .int .i64 r.kind, .int .i64 r.id, .int .i64 r.to', .int .i64 r.cat, .string r.d, .int .i64 r.b1, .slice p1 r.l1.length m1, .int .i64 r.b2, .slice p2 r.l2.length m2] 33) = V at *
  have EV := hid (EE.out.below L.out)
  refine (IR.out V EV.out).mono ?_
  rintro e w5 ⟨q1, n1, q2, n2, rfl, T5, hb5⟩
  unfold StepR.val
  obtain ⟨bg1, bg2, RG⟩ := T5.rows
  have K5 := (Below.refl _ w5).alloc (Nat.le_refl _) (.cells #[.int .i64 r.th, .int .i64 r.kind, .int .i64 r.id, .int .i64 r.to', .int .i64 r.cat, .string r.d, .int .i64 r.b1, .slice q1 r.l1.length n1, .int .i64 r.b2, .slice q2 r.l2.length n2] 33)
  have G := hid (Blk.new w5 (.cells #[.int .i64 r.th, .int .i64 r.kind, .int .i64 r.id, .int .i64 r.to', .int .i64 r.cat, .string r.d, .int .i64 r.b1, .slice q1 r.l1.length n1, .int .i64 r.b2, .slice q2 r.l2.length n2] 33))
  have gl1 : 0 < r.l1.length → bg1 < w5.heap.size := fun h => RG.r1.lt h
  have gl2 : 0 < r.l2.length → bg2 < w5.heap.size := fun h => RG.r2.lt h
  have RG5 := hid (RG.below K5)
  obtain ⟨GC1, GC2⟩ : Hid (CatsAt (w5.alloc (.cells #[.int .i64 r.th, .int .i64 r.kind, .int .i64 r.id, .int .i64 r.to', .int .i64 r.cat, .string r.d, .int .i64 r.b1, .slice q1 r.l1.length n1, .int .i64 r.b2, .slice q2 r.l2.length n2] 33)) q1 r.l1.length (fstAt r.l1) (sndAt r.l1)) ∧ Hid (CatsAt (w5.alloc (.cells #[.int .i64 r.th, .int .i64 r.kind, .int .i64 r.id, .int .i64 r.to', .int .i64 r.cat, .string r.d, .int .i64 r.b1, .slice q1 r.l1.length n1, .int .i64 r.b2, .slice q2 r.l2.length n2] 33)) q2 r.l2.length (fstAt r.l2) (sndAt r.l2)) := by
    obtain ⟨M1, M2, _, _, _, h4, h5⟩ := T5
    exact ⟨hid ((OwnCats.cats h4).below K5), hid ((OwnCats.cats h5).below K5)⟩
  have T5' := hid (hb5.trans (K5.mono hb5.size))
  have P5 := hid (P.out.below T5'.out)
  have z5 : V.heap.size ≤ w5.heap.size := hb5.size
  clear RG K5 T5 hb5
  obtain ⟨x0, x1, x2, x3, x4, x5, x6, x7, x8, x9⟩ := G.out.ten
  obtain ⟨y0, y1, y2, y3, y4, y5, y6, y7, y8, y9⟩ := P5.out.ten
  go_wp2_with fail
  refine (eqStep_true _ _ _ _ _ _ _ _ _ _ (fstAt r.l1) (sndAt r.l1) _ _ _ _ (fstAt r.l2) (sndAt r.l2) _ _ _ _ _ ml1 ml2 GC1.out GC2.out (PC1.out.below T5'.out) (PC2.out.below T5'.out)).mono ?_
  rintro e w10 ⟨rfl, hb10⟩
  have T10 := hid (T5'.out.trans (hb10.mono T5'.out.size))
  have G10 := hid (G.out.below hb10)
  have RG10 := hid (RG5.out.below hb10)
  clear x0 x1 x2 x3 x4 x5 x6 x7 x8 x9 y0 y1 y2 y3 y4 y5 y6 y7 y8 y9 GC1 GC2 T5' P5 RG5 hb10 G
  obtain ⟨x0, x1, x2, x3, x4, x5, x6, x7, x8, x9⟩ := G10.out.ten
  go_wp2_with fail
  refine (markStep2_any V.heap.size _ _ _ _ _ _ _ _ _ _ _ _ _ _ bg1 bg2 _ (by omega) (by omega) T10.out.size RG10.out).mono ?_
  rintro e w11 ⟨rfl, M1, M2, hb11, keep⟩
  have T11 := hid (T10.out.trans hb11)
  have G11 := hid (keep _ _ G10.out (fun h => by have := gl1 h; omega) (fun h => by have := gl2 h; omega))
  have N1 := hid M1
  have N2 := hid M2
  clear x0 x1 x2 x3 x4 x5 x6 x7 x8 x9 T10 G10 RG10 hb11 keep M1 M2
  obtain ⟨x0, x1, x2, x3, x4, x5, x6, x7, x8, x9⟩ := G11.out.ten
  go_wp2_with fail
  refine (heldStep2_any _ _ _ _ _ _ _ _ _ _ _ _ _ _ _ (by omega) (by omega) N1.out N2.out).mono ?_
  rintro e w12 ⟨rfl, hb12⟩
  have T12 := hid (T11.out.trans (hb12.mono T11.out.size))
  have G12 := hid (G11.out.below hb12)
  have N1' := hid (N1.out.below hb12)
  have N2' := hid (N2.out.below hb12)
  have k12 : ¬ (1 + 2 * (r.l1.length : Int) + 2 * (r.l2.length : Int) < 0) := by omega
  clear x0 x1 x2 x3 x4 x5 x6 x7 x8 x9 T11 G11 hb12 N1 N2
  have E12 := hid (EV.out.below T12.out)
  go_wp2_with fail
  refine (IR.out _ E12.out).mono ?_
  rintro e w14 ⟨s1, o1, s2, o2, rfl, T14, hb14⟩
  unfold StepR.val
  have K14 := (Below.refl _ w14).alloc (Nat.le_refl _) (.cells #[.int .i64 r.th, .int .i64 r.kind, .int .i64 r.id, .int .i64 r.to', .int .i64 r.cat, .string r.d, .int .i64 r.b1, .slice s1 r.l1.length o1, .int .i64 r.b2, .slice s2 r.l2.length o2] 33)
  have H := hid (Blk.new w14 (.cells #[.int .i64 r.th, .int .i64 r.kind, .int .i64 r.id, .int .i64 r.to', .int .i64 r.cat, .string r.d, .int .i64 r.b1, .slice s1 r.l1.length o1, .int .i64 r.b2, .slice s2 r.l2.length o2] 33))
  obtain ⟨HC1, HC2⟩ : Hid (CatsAt (w14.alloc (.cells #[.int .i64 r.th, .int .i64 r.kind, .int .i64 r.id, .int .i64 r.to', .int .i64 r.cat, .string r.d, .int .i64 r.b1, .slice s1 r.l1.length o1, .int .i64 r.b2, .slice s2 r.l2.length o2] 33)) s1 r.l1.length (fstAt r.l1) (sndAt r.l1)) ∧ Hid (CatsAt (w14.alloc (.cells #[.int .i64 r.th, .int .i64 r.kind, .int .i64 r.id, .int .i64 r.to', .int .i64 r.cat, .string r.d, .int .i64 r.b1, .slice s1 r.l1.length o1, .int .i64 r.b2, .slice s2 r.l2.length o2] 33)) s2 r.l2.length (fstAt r.l2) (sndAt r.l2)) := by
    obtain ⟨M1, M2, _, _, _, h4, h5⟩ := T14
    exact ⟨hid ((OwnCats.cats h4).below K14), hid ((OwnCats.cats h5).below K14)⟩
  have U14 := hid ((T12.out.trans (hb14.mono T12.out.size)).trans (K14.mono (Nat.le_trans T12.out.size hb14.size)))
  have G14 := hid ((G12.out.below hb14).below K14)
  have N3 := hid ((N1'.out.below hb14).below K14)
  have N4 := hid ((N2'.out.below hb14).below K14)
  have P14 := hid (P.out.below U14.out)
  clear T12 G12 N1' N2' hb14 T14 K14 E12 IR
  obtain ⟨x0, x1, x2, x3, x4, x5, x6, x7, x8, x9⟩ := H.out.ten
  obtain ⟨y0, y1, y2, y3, y4, y5, y6, y7, y8, y9⟩ := P14.out.ten
  go_wp2_with fail
  refine (eqStep_true _ _ _ _ _ _ _ _ _ _ (fstAt r.l1) (sndAt r.l1) _ _ _ _ (fstAt r.l2) (sndAt r.l2) _ _ _ _ _ ml1 ml2 HC1.out HC2.out (PC1.out.below U14.out) (PC2.out.below U14.out)).mono ?_
  rintro e w15 ⟨rfl, hb15⟩
  have T15 := hid (U14.out.trans (hb15.mono U14.out.size))
  have G15 := hid (G14.out.below hb15)
  have N5 := hid (N3.out.below hb15)
  have N6 := hid (N4.out.below hb15)
  clear x0 x1 x2 x3 x4 x5 x6 x7 x8 x9 y0 y1 y2 y3 y4 y5 y6 y7 y8 y9 U14 G14 N3 N4 P14 H HC1 HC2 hb15
  obtain ⟨x0, x1, x2, x3, x4, x5, x6, x7, x8, x9⟩ := G15.out.ten
  go_wp2_with fail
  refine (heldStep2_any _ _ _ _ _ _ _ _ _ _ _ _ _ _ _ (by omega) (by omega) N5.out N6.out).mono ?_
  rintro e w16 ⟨rfl, hb16⟩
  have L16 : Below w.heap.size w w16 := (L.out.trans (T15.out.mono L.out.size)).trans (hb16.mono (Nat.le_trans L.out.size T15.out.size))
  clear x0 x1 x2 x3 x4 x5 x6 x7 x8 x9 T15 G15 N5 N6 hb16
  go_wp2
  go_ret
  exact ⟨rfl, L16⟩
end Go.Proofs.YtcpphobokdkkeaaDoor
