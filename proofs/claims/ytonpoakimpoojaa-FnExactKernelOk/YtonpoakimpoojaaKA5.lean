/- Kernels as they lie in memory: the copy of an object. -/
import Derived.Test.YtonpoakimpoojaaKA4
namespace Go.Proofs.Ytonpoakimpoojaa
open Go.RowKit Go.Deep

set_option maxRecDepth 100000 in
set_option maxHeartbeats 4000000 in
theorem toObject_any (t : ObjV) (w : World) (ht : t.at w) (hs : t.small) :
    Calls Try.prog 69 #[.agg #[.int .i64 t.id, .int .i64 t.kind, .int .i64 t.up, .int .i64 t.b1, .slice t.c1.a t.c1.n t.c1.k, .string t.data, .slice t.items.a t.items.n t.items.k, .slice t.own.a t.own.n t.own.k, .int .i64 t.b2, .slice t.c2.a t.c2.n t.c2.k]] w fun e w' => ∃ d1 d2 d3 d4, e = .returned (.agg #[.int .i64 t.id, .int .i64 t.kind, .int .i64 t.up, .int .i64 t.b1, .slice (some ⟨d1, 0, none⟩) t.c1.n t.c1.n, .string t.data, .slice (some ⟨d2, 0, none⟩) t.items.n t.items.n, .slice (some ⟨d3, 0, none⟩) t.own.n t.own.n, .int .i64 t.b2, .slice (some ⟨d4, 0, none⟩) t.c2.n t.c2.n]) ∧ w'.rowIs d1 112 (t.c1.n * 2) (pairCell t.c1.f t.c1.g) ∧ w'.rowIs d2 9 t.items.n (fun i => .string (t.items.f i)) ∧ w'.rowIs d3 2 t.own.n (fun i => .int .i64 (t.own.h i)) ∧ w'.rowIs d4 112 (t.c2.n * 2) (pairCell t.c2.f t.c2.g) ∧ Below w.heap.size w w' := by
  have HT := hid ht
  obtain ⟨m1, m2, m3, m4, m5⟩ := hs
  have m3' := m3.1
  clear ht
  have S0a : Hid (Blk (((w.alloc (.cells #[.int .i64 t.id, .int .i64 t.kind, .int .i64 t.up, .int .i64 t.b1, .slice t.c1.a t.c1.n t.c1.k, .string t.data, .slice t.items.a t.items.n t.items.k, .slice t.own.a t.own.n t.own.k, .int .i64 t.b2, .slice t.c2.a t.c2.n t.c2.k] 93)).alloc (.cells #[.int .i64 0, .int .i64 0, .int .i64 0, .int .i64 0, .slice none 0 0, .string ⟨#[]⟩, .slice none 0 0, .slice none 0 0, .int .i64 0, .slice none 0 0] 41)).alloc (.cells #[.int .i64 t.id, .int .i64 t.kind, .int .i64 t.up, .int .i64 0, .slice none 0 0, .string ⟨#[]⟩, .slice none 0 0, .slice none 0 0, .int .i64 0, .slice none 0 0] 41)) w.heap.size (.cells #[.int .i64 t.id, .int .i64 t.kind, .int .i64 t.up, .int .i64 t.b1, .slice t.c1.a t.c1.n t.c1.k, .string t.data, .slice t.items.a t.items.n t.items.k, .slice t.own.a t.own.n t.own.k, .int .i64 t.b2, .slice t.c2.a t.c2.n t.c2.k] 93)) := hid (((Blk.new w _).alloc _).alloc _)
  have R0a : Hid (Blk (((w.alloc (.cells #[.int .i64 t.id, .int .i64 t.kind, .int .i64 t.up, .int .i64 t.b1, .slice t.c1.a t.c1.n t.c1.k, .string t.data, .slice t.items.a t.items.n t.items.k, .slice t.own.a t.own.n t.own.k, .int .i64 t.b2, .slice t.c2.a t.c2.n t.c2.k] 93)).alloc (.cells #[.int .i64 0, .int .i64 0, .int .i64 0, .int .i64 0, .slice none 0 0, .string ⟨#[]⟩, .slice none 0 0, .slice none 0 0, .int .i64 0, .slice none 0 0] 41)).alloc (.cells #[.int .i64 t.id, .int .i64 t.kind, .int .i64 t.up, .int .i64 0, .slice none 0 0, .string ⟨#[]⟩, .slice none 0 0, .slice none 0 0, .int .i64 0, .slice none 0 0] 41)) (w.heap.size + 1) (.cells #[.int .i64 0, .int .i64 0, .int .i64 0, .int .i64 0, .slice none 0 0, .string ⟨#[]⟩, .slice none 0 0, .slice none 0 0, .int .i64 0, .slice none 0 0] 41)) := by
    have := (Blk.new (w.alloc (.cells #[.int .i64 t.id, .int .i64 t.kind, .int .i64 t.up, .int .i64 t.b1, .slice t.c1.a t.c1.n t.c1.k, .string t.data, .slice t.items.a t.items.n t.items.k, .slice t.own.a t.own.n t.own.k, .int .i64 t.b2, .slice t.c2.a t.c2.n t.c2.k] 93)) (.cells #[.int .i64 0, .int .i64 0, .int .i64 0, .int .i64 0, .slice none 0 0, .string ⟨#[]⟩, .slice none 0 0, .slice none 0 0, .int .i64 0, .slice none 0 0] 41)).alloc (.cells #[.int .i64 t.id, .int .i64 t.kind, .int .i64 t.up, .int .i64 0, .slice none 0 0, .string ⟨#[]⟩, .slice none 0 0, .slice none 0 0, .int .i64 0, .slice none 0 0] 41)
    refine hid ?_
    simpa using this
  have Q0a : Hid (Blk (((w.alloc (.cells #[.int .i64 t.id, .int .i64 t.kind, .int .i64 t.up, .int .i64 t.b1, .slice t.c1.a t.c1.n t.c1.k, .string t.data, .slice t.items.a t.items.n t.items.k, .slice t.own.a t.own.n t.own.k, .int .i64 t.b2, .slice t.c2.a t.c2.n t.c2.k] 93)).alloc (.cells #[.int .i64 0, .int .i64 0, .int .i64 0, .int .i64 0, .slice none 0 0, .string ⟨#[]⟩, .slice none 0 0, .slice none 0 0, .int .i64 0, .slice none 0 0] 41)).alloc (.cells #[.int .i64 t.id, .int .i64 t.kind, .int .i64 t.up, .int .i64 0, .slice none 0 0, .string ⟨#[]⟩, .slice none 0 0, .slice none 0 0, .int .i64 0, .slice none 0 0] 41)) (w.heap.size + 1 + 1) (.cells #[.int .i64 t.id, .int .i64 t.kind, .int .i64 t.up, .int .i64 0, .slice none 0 0, .string ⟨#[]⟩, .slice none 0 0, .slice none 0 0, .int .i64 0, .slice none 0 0] 41)) := by
    have := Blk.new ((w.alloc (.cells #[.int .i64 t.id, .int .i64 t.kind, .int .i64 t.up, .int .i64 t.b1, .slice t.c1.a t.c1.n t.c1.k, .string t.data, .slice t.items.a t.items.n t.items.k, .slice t.own.a t.own.n t.own.k, .int .i64 t.b2, .slice t.c2.a t.c2.n t.c2.k] 93)).alloc (.cells #[.int .i64 0, .int .i64 0, .int .i64 0, .int .i64 0, .slice none 0 0, .string ⟨#[]⟩, .slice none 0 0, .slice none 0 0, .int .i64 0, .slice none 0 0] 41)) (.cells #[.int .i64 t.id, .int .i64 t.kind, .int .i64 t.up, .int .i64 0, .slice none 0 0, .string ⟨#[]⟩, .slice none 0 0, .slice none 0 0, .int .i64 0, .slice none 0 0] 41)
    refine hid ?_
    simpa using this
  have B0a : Hid (Below w.heap.size w (((w.alloc (.cells #[.int .i64 t.id, .int .i64 t.kind, .int .i64 t.up, .int .i64 t.b1, .slice t.c1.a t.c1.n t.c1.k, .string t.data, .slice t.items.a t.items.n t.items.k, .slice t.own.a t.own.n t.own.k, .int .i64 t.b2, .slice t.c2.a t.c2.n t.c2.k] 93)).alloc (.cells #[.int .i64 0, .int .i64 0, .int .i64 0, .int .i64 0, .slice none 0 0, .string ⟨#[]⟩, .slice none 0 0, .slice none 0 0, .int .i64 0, .slice none 0 0] 41)).alloc (.cells #[.int .i64 t.id, .int .i64 t.kind, .int .i64 t.up, .int .i64 0, .slice none 0 0, .string ⟨#[]⟩, .slice none 0 0, .slice none 0 0, .int .i64 0, .slice none 0 0] 41))) := hid ((((Below.refl _ w).alloc (Nat.le_refl _) _).alloc (by simp) _).alloc (by simp; omega) _)
  go_enter Try.func69, Try.ntmps69
  go_wp2_with fail
  generalize (((w.alloc (.cells #[.int .i64 t.id, .int .i64 t.kind, .int .i64 t.up, .int .i64 t.b1, .slice t.c1.a t.c1.n t.c1.k, .string t.data, .slice t.items.a t.items.n t.items.k, .slice t.own.a t.own.n t.own.k, .int .i64 t.b2, .slice t.c2.a t.c2.n t.c2.k] 93)).alloc (.cells #[.int .i64 0, .int .i64 0, .int .i64 0, .int .i64 0, .slice none 0 0, .string ⟨#[]⟩, .slice none 0 0, .slice none 0 0, .int .i64 0, .slice none 0 0] 41)).alloc (.cells #[.int .i64 t.id, .int .i64 t.kind, .int .i64 t.up, .int .i64 0, .slice none 0 0, .string ⟨#[]⟩, .slice none 0 0, .slice none 0 0, .int .i64 0, .slice none 0 0] 41)) = V0 at *
  have l0 := Q0a.out.lt
  refine (toLabel_any _ _ _ _ t.c1.f t.c1.g _ m1 (HT.out.1.2.below B0a.out)).mono ?_
  rintro e w1 ⟨d1, rfl, g1, r1, hb1⟩
  have Q1 := hid (Q0a.out.below hb1)
  have S1 := hid (S0a.out.below hb1)
  have R1 := hid (R0a.out.below hb1)
  have B1 := hid (then_ B0a.out hb1)
  have Nd11 := hid r1
  have y1 := hb1.size
  clear Q0a S0a R0a B0a r1 hb1
  have Q1a : Hid (Blk (((w1.setCell ⟨w.heap.size + 1 + 1, 3, none⟩ (.int .i64 t.b1)).setCell ⟨w.heap.size + 1 + 1, 4, none⟩ (.slice (some ⟨d1, 0, none⟩) t.c1.n t.c1.n)).setCell ⟨w.heap.size + 1 + 1, 5, none⟩ (.string t.data)) (w.heap.size + 1 + 1) (.cells #[.int .i64 t.id, .int .i64 t.kind, .int .i64 t.up, .int .i64 t.b1, .slice (some ⟨d1, 0, none⟩) t.c1.n t.c1.n, .string t.data, .slice none 0 0, .slice none 0 0, .int .i64 0, .slice none 0 0] 41)) := hid ((((Q1.out.setAt _).setAt _).setAt _))
  have S1a := hid ((((S1.out.other (Q := w.heap.size + 1 + 1) (i := 3) (by omega) (.int .i64 t.b1)).other (Q := w.heap.size + 1 + 1) (i := 4) (by omega) (.slice (some ⟨d1, 0, none⟩) t.c1.n t.c1.n)).other (Q := w.heap.size + 1 + 1) (i := 5) (by omega) (.string t.data)))
  have R1a := hid ((((R1.out.other (Q := w.heap.size + 1 + 1) (i := 3) (by omega) (.int .i64 t.b1)).other (Q := w.heap.size + 1 + 1) (i := 4) (by omega) (.slice (some ⟨d1, 0, none⟩) t.c1.n t.c1.n)).other (Q := w.heap.size + 1 + 1) (i := 5) (by omega) (.string t.data)))
  have B1a := hid ((((B1.out.setCell (p := ⟨w.heap.size + 1 + 1, 3, none⟩) (show w.heap.size ≤ w.heap.size + 1 + 1 by omega) (.int .i64 t.b1)).setCell (p := ⟨w.heap.size + 1 + 1, 4, none⟩) (show w.heap.size ≤ w.heap.size + 1 + 1 by omega) (.slice (some ⟨d1, 0, none⟩) t.c1.n t.c1.n)).setCell (p := ⟨w.heap.size + 1 + 1, 5, none⟩) (show w.heap.size ≤ w.heap.size + 1 + 1 by omega) (.string t.data)))
  have Nd11a := hid ((((Nd11.out.setOther (a := ⟨w.heap.size + 1 + 1, 3, none⟩) (show d1 ≠ w.heap.size + 1 + 1 by omega) (.int .i64 t.b1)).setOther (a := ⟨w.heap.size + 1 + 1, 4, none⟩) (show d1 ≠ w.heap.size + 1 + 1 by omega) (.slice (some ⟨d1, 0, none⟩) t.c1.n t.c1.n)).setOther (a := ⟨w.heap.size + 1 + 1, 5, none⟩) (show d1 ≠ w.heap.size + 1 + 1 by omega) (.string t.data)))
  obtain ⟨q0, q1, q2, q3, q4, q5, q6, q7, q8, q9⟩ := Q1.out.ten
  obtain ⟨s0, s1, s2, s3, s4, s5, s6, s7, s8, s9⟩ := S1.out.ten
  have qf := Q1.out.warm
  go_wp2_with fail
  generalize (((w1.setCell ⟨w.heap.size + 1 + 1, 3, none⟩ (.int .i64 t.b1)).setCell ⟨w.heap.size + 1 + 1, 4, none⟩ (.slice (some ⟨d1, 0, none⟩) t.c1.n t.c1.n)).setCell ⟨w.heap.size + 1 + 1, 5, none⟩ (.string t.data)) = V1 at *
  clear q0 q1 q2 q3 q4 q5 q6 q7 q8 q9 s0 s1 s2 s3 s4 s5 s6 s7 s8 s9 qf
  have l1 := Q1a.out.lt
  refine (toStringS_any _ _ _ t.items.f _ m3' (HT.out.2.1.2.1.below B1a.out)).mono ?_
  rintro e w2 ⟨rfl, r2, hb2⟩
  have Q2 := hid (Q1a.out.below hb2)
  have S2 := hid (S1a.out.below hb2)
  have R2 := hid (R1a.out.below hb2)
  have B2 := hid (then_ B1a.out hb2)
  have Nd12 := hid (rowUp Nd11a.out hb2)
  have Nd22 := hid r2
  have y2 := hb2.size
  clear Q1 S1 R1 B1 Q1a S1a R1a B1a Nd11 Nd11a r2 hb2
  generalize V1.heap.size = d2 at *
  have Q2a : Hid (Blk (w2.setCell ⟨w.heap.size + 1 + 1, 6, none⟩ (.slice (some ⟨d2, 0, none⟩) t.items.n t.items.n)) (w.heap.size + 1 + 1) (.cells #[.int .i64 t.id, .int .i64 t.kind, .int .i64 t.up, .int .i64 t.b1, .slice (some ⟨d1, 0, none⟩) t.c1.n t.c1.n, .string t.data, .slice (some ⟨d2, 0, none⟩) t.items.n t.items.n, .slice none 0 0, .int .i64 0, .slice none 0 0] 41)) := hid ((Q2.out.setAt _))
  have S2a := hid ((S2.out.other (Q := w.heap.size + 1 + 1) (i := 6) (by omega) (.slice (some ⟨d2, 0, none⟩) t.items.n t.items.n)))
  have R2a := hid ((R2.out.other (Q := w.heap.size + 1 + 1) (i := 6) (by omega) (.slice (some ⟨d2, 0, none⟩) t.items.n t.items.n)))
  have B2a := hid ((B2.out.setCell (p := ⟨w.heap.size + 1 + 1, 6, none⟩) (show w.heap.size ≤ w.heap.size + 1 + 1 by omega) (.slice (some ⟨d2, 0, none⟩) t.items.n t.items.n)))
  have Nd12a := hid ((Nd12.out.setOther (a := ⟨w.heap.size + 1 + 1, 6, none⟩) (show d1 ≠ w.heap.size + 1 + 1 by omega) (.slice (some ⟨d2, 0, none⟩) t.items.n t.items.n)))
  have Nd22a := hid ((Nd22.out.setOther (a := ⟨w.heap.size + 1 + 1, 6, none⟩) (show d2 ≠ w.heap.size + 1 + 1 by omega) (.slice (some ⟨d2, 0, none⟩) t.items.n t.items.n)))
  obtain ⟨q0, q1, q2, q3, q4, q5, q6, q7, q8, q9⟩ := Q2.out.ten
  obtain ⟨s0, s1, s2, s3, s4, s5, s6, s7, s8, s9⟩ := S2.out.ten
  have qf := Q2.out.warm
  go_wp2_with fail
  generalize (w2.setCell ⟨w.heap.size + 1 + 1, 6, none⟩ (.slice (some ⟨d2, 0, none⟩) t.items.n t.items.n)) = V2 at *
  clear q0 q1 q2 q3 q4 q5 q6 q7 q8 q9 s0 s1 s2 s3 s4 s5 s6 s7 s8 s9 qf
  have l2 := Q2a.out.lt
  refine (toInt64S_any _ _ _ t.own.h _ m4 (HT.out.2.2.1.2.below B2a.out)).mono ?_
  rintro e w3 ⟨rfl, r3, hb3⟩
  have Q3 := hid (Q2a.out.below hb3)
  have S3 := hid (S2a.out.below hb3)
  have R3 := hid (R2a.out.below hb3)
  have B3 := hid (then_ B2a.out hb3)
  have Nd13 := hid (rowUp Nd12a.out hb3)
  have Nd23 := hid (rowUp Nd22a.out hb3)
  have Nd33 := hid r3
  have y3 := hb3.size
  clear Q2 S2 R2 B2 Q2a S2a R2a B2a Nd12 Nd12a Nd22 Nd22a r3 hb3
  generalize V2.heap.size = d3 at *
  have Q3a : Hid (Blk (w3.setCell ⟨w.heap.size + 1 + 1, 7, none⟩ (.slice (some ⟨d3, 0, none⟩) t.own.n t.own.n)) (w.heap.size + 1 + 1) (.cells #[.int .i64 t.id, .int .i64 t.kind, .int .i64 t.up, .int .i64 t.b1, .slice (some ⟨d1, 0, none⟩) t.c1.n t.c1.n, .string t.data, .slice (some ⟨d2, 0, none⟩) t.items.n t.items.n, .slice (some ⟨d3, 0, none⟩) t.own.n t.own.n, .int .i64 0, .slice none 0 0] 41)) := hid ((Q3.out.setAt _))
  have S3a := hid ((S3.out.other (Q := w.heap.size + 1 + 1) (i := 7) (by omega) (.slice (some ⟨d3, 0, none⟩) t.own.n t.own.n)))
  have R3a := hid ((R3.out.other (Q := w.heap.size + 1 + 1) (i := 7) (by omega) (.slice (some ⟨d3, 0, none⟩) t.own.n t.own.n)))
  have B3a := hid ((B3.out.setCell (p := ⟨w.heap.size + 1 + 1, 7, none⟩) (show w.heap.size ≤ w.heap.size + 1 + 1 by omega) (.slice (some ⟨d3, 0, none⟩) t.own.n t.own.n)))
  have Nd13a := hid ((Nd13.out.setOther (a := ⟨w.heap.size + 1 + 1, 7, none⟩) (show d1 ≠ w.heap.size + 1 + 1 by omega) (.slice (some ⟨d3, 0, none⟩) t.own.n t.own.n)))
  have Nd23a := hid ((Nd23.out.setOther (a := ⟨w.heap.size + 1 + 1, 7, none⟩) (show d2 ≠ w.heap.size + 1 + 1 by omega) (.slice (some ⟨d3, 0, none⟩) t.own.n t.own.n)))
  have Nd33a := hid ((Nd33.out.setOther (a := ⟨w.heap.size + 1 + 1, 7, none⟩) (show d3 ≠ w.heap.size + 1 + 1 by omega) (.slice (some ⟨d3, 0, none⟩) t.own.n t.own.n)))
  obtain ⟨q0, q1, q2, q3, q4, q5, q6, q7, q8, q9⟩ := Q3.out.ten
  obtain ⟨s0, s1, s2, s3, s4, s5, s6, s7, s8, s9⟩ := S3.out.ten
  have qf := Q3.out.warm
  go_wp2_with fail
  generalize (w3.setCell ⟨w.heap.size + 1 + 1, 7, none⟩ (.slice (some ⟨d3, 0, none⟩) t.own.n t.own.n)) = V3 at *
  clear q0 q1 q2 q3 q4 q5 q6 q7 q8 q9 s0 s1 s2 s3 s4 s5 s6 s7 s8 s9 qf
  have l3 := Q3a.out.lt
  refine (toLabel_any _ _ _ _ t.c2.f t.c2.g _ m5 (HT.out.2.2.2.1.2.below B3a.out)).mono ?_
  rintro e w4 ⟨d4, rfl, g4, r4, hb4⟩
  have Q4 := hid (Q3a.out.below hb4)
  have S4 := hid (S3a.out.below hb4)
  have R4 := hid (R3a.out.below hb4)
  have B4 := hid (then_ B3a.out hb4)
  have Nd14 := hid (rowUp Nd13a.out hb4)
  have Nd24 := hid (rowUp Nd23a.out hb4)
  have Nd34 := hid (rowUp Nd33a.out hb4)
  have Nd44 := hid r4
  clear Q3 S3 R3 B3 Q3a S3a R3a B3a Nd13 Nd13a Nd23 Nd23a Nd33 Nd33a r4 hb4
  have Q4a : Hid (Blk ((w4.setCell ⟨w.heap.size + 1 + 1, 8, none⟩ (.int .i64 t.b2)).setCell ⟨w.heap.size + 1 + 1, 9, none⟩ (.slice (some ⟨d4, 0, none⟩) t.c2.n t.c2.n)) (w.heap.size + 1 + 1) (.cells #[.int .i64 t.id, .int .i64 t.kind, .int .i64 t.up, .int .i64 t.b1, .slice (some ⟨d1, 0, none⟩) t.c1.n t.c1.n, .string t.data, .slice (some ⟨d2, 0, none⟩) t.items.n t.items.n, .slice (some ⟨d3, 0, none⟩) t.own.n t.own.n, .int .i64 t.b2, .slice (some ⟨d4, 0, none⟩) t.c2.n t.c2.n] 41)) := hid (((Q4.out.setAt _).setAt _))
  have S4a := hid (((S4.out.other (Q := w.heap.size + 1 + 1) (i := 8) (by omega) (.int .i64 t.b2)).other (Q := w.heap.size + 1 + 1) (i := 9) (by omega) (.slice (some ⟨d4, 0, none⟩) t.c2.n t.c2.n)))
  have R4a := hid (((R4.out.other (Q := w.heap.size + 1 + 1) (i := 8) (by omega) (.int .i64 t.b2)).other (Q := w.heap.size + 1 + 1) (i := 9) (by omega) (.slice (some ⟨d4, 0, none⟩) t.c2.n t.c2.n)))
  have B4a := hid (((B4.out.setCell (p := ⟨w.heap.size + 1 + 1, 8, none⟩) (show w.heap.size ≤ w.heap.size + 1 + 1 by omega) (.int .i64 t.b2)).setCell (p := ⟨w.heap.size + 1 + 1, 9, none⟩) (show w.heap.size ≤ w.heap.size + 1 + 1 by omega) (.slice (some ⟨d4, 0, none⟩) t.c2.n t.c2.n)))
  have Nd14a := hid (((Nd14.out.setOther (a := ⟨w.heap.size + 1 + 1, 8, none⟩) (show d1 ≠ w.heap.size + 1 + 1 by omega) (.int .i64 t.b2)).setOther (a := ⟨w.heap.size + 1 + 1, 9, none⟩) (show d1 ≠ w.heap.size + 1 + 1 by omega) (.slice (some ⟨d4, 0, none⟩) t.c2.n t.c2.n)))
  have Nd24a := hid (((Nd24.out.setOther (a := ⟨w.heap.size + 1 + 1, 8, none⟩) (show d2 ≠ w.heap.size + 1 + 1 by omega) (.int .i64 t.b2)).setOther (a := ⟨w.heap.size + 1 + 1, 9, none⟩) (show d2 ≠ w.heap.size + 1 + 1 by omega) (.slice (some ⟨d4, 0, none⟩) t.c2.n t.c2.n)))
  have Nd34a := hid (((Nd34.out.setOther (a := ⟨w.heap.size + 1 + 1, 8, none⟩) (show d3 ≠ w.heap.size + 1 + 1 by omega) (.int .i64 t.b2)).setOther (a := ⟨w.heap.size + 1 + 1, 9, none⟩) (show d3 ≠ w.heap.size + 1 + 1 by omega) (.slice (some ⟨d4, 0, none⟩) t.c2.n t.c2.n)))
  have Nd44a := hid (((Nd44.out.setOther (a := ⟨w.heap.size + 1 + 1, 8, none⟩) (show d4 ≠ w.heap.size + 1 + 1 by omega) (.int .i64 t.b2)).setOther (a := ⟨w.heap.size + 1 + 1, 9, none⟩) (show d4 ≠ w.heap.size + 1 + 1 by omega) (.slice (some ⟨d4, 0, none⟩) t.c2.n t.c2.n)))
  obtain ⟨q0, q1, q2, q3, q4, q5, q6, q7, q8, q9⟩ := Q4.out.ten
  obtain ⟨s0, s1, s2, s3, s4, s5, s6, s7, s8, s9⟩ := S4.out.ten
  have qf := Q4.out.warm
  obtain ⟨t0, t1, t2, t3, t4, t5, t6, t7, t8, t9⟩ := R4.out.ten
  have tf := R4.out.warm
  have n1 : ¬ w.heap.size + 1 = w.heap.size + 1 + 1 := by omega
  have n2 : ¬ w.heap.size + 1 + 1 = w.heap.size + 1 := by omega
  go_wp2
  refine bodyPost_ret (results69 _ _ (w.heap.size + 1) (.int .i64 t.id) (.int .i64 t.kind) (.int .i64 t.up) (.int .i64 t.b1) (.slice (some ⟨d1, 0, none⟩) t.c1.n t.c1.n) (.string t.data) (.slice (some ⟨d2, 0, none⟩) t.items.n t.items.n) (.slice (some ⟨d3, 0, none⟩) t.own.n t.own.n) (.int .i64 t.b2) (.slice (some ⟨d4, 0, none⟩) t.c2.n t.c2.n) (R4a.out.all10 _ _ _ _ _ _ _ _ _ _) rfl) rfl ⟨d1, d2, d3, d4, rfl, ?_, ?_, ?_, ?_, ?_⟩
  · exact ((((((((((Nd14a.out.setOther (a := ⟨w.heap.size + 1, 0, none⟩) (show d1 ≠ w.heap.size + 1 by omega) _).setOther (a := ⟨w.heap.size + 1, 1, none⟩) (show d1 ≠ w.heap.size + 1 by omega) _).setOther (a := ⟨w.heap.size + 1, 2, none⟩) (show d1 ≠ w.heap.size + 1 by omega) _).setOther (a := ⟨w.heap.size + 1, 3, none⟩) (show d1 ≠ w.heap.size + 1 by omega) _).setOther (a := ⟨w.heap.size + 1, 4, none⟩) (show d1 ≠ w.heap.size + 1 by omega) _).setOther (a := ⟨w.heap.size + 1, 5, none⟩) (show d1 ≠ w.heap.size + 1 by omega) _).setOther (a := ⟨w.heap.size + 1, 6, none⟩) (show d1 ≠ w.heap.size + 1 by omega) _).setOther (a := ⟨w.heap.size + 1, 7, none⟩) (show d1 ≠ w.heap.size + 1 by omega) _).setOther (a := ⟨w.heap.size + 1, 8, none⟩) (show d1 ≠ w.heap.size + 1 by omega) _).setOther (a := ⟨w.heap.size + 1, 9, none⟩) (show d1 ≠ w.heap.size + 1 by omega) _)
  · exact ((((((((((Nd24a.out.setOther (a := ⟨w.heap.size + 1, 0, none⟩) (show d2 ≠ w.heap.size + 1 by omega) _).setOther (a := ⟨w.heap.size + 1, 1, none⟩) (show d2 ≠ w.heap.size + 1 by omega) _).setOther (a := ⟨w.heap.size + 1, 2, none⟩) (show d2 ≠ w.heap.size + 1 by omega) _).setOther (a := ⟨w.heap.size + 1, 3, none⟩) (show d2 ≠ w.heap.size + 1 by omega) _).setOther (a := ⟨w.heap.size + 1, 4, none⟩) (show d2 ≠ w.heap.size + 1 by omega) _).setOther (a := ⟨w.heap.size + 1, 5, none⟩) (show d2 ≠ w.heap.size + 1 by omega) _).setOther (a := ⟨w.heap.size + 1, 6, none⟩) (show d2 ≠ w.heap.size + 1 by omega) _).setOther (a := ⟨w.heap.size + 1, 7, none⟩) (show d2 ≠ w.heap.size + 1 by omega) _).setOther (a := ⟨w.heap.size + 1, 8, none⟩) (show d2 ≠ w.heap.size + 1 by omega) _).setOther (a := ⟨w.heap.size + 1, 9, none⟩) (show d2 ≠ w.heap.size + 1 by omega) _)
  · exact ((((((((((Nd34a.out.setOther (a := ⟨w.heap.size + 1, 0, none⟩) (show d3 ≠ w.heap.size + 1 by omega) _).setOther (a := ⟨w.heap.size + 1, 1, none⟩) (show d3 ≠ w.heap.size + 1 by omega) _).setOther (a := ⟨w.heap.size + 1, 2, none⟩) (show d3 ≠ w.heap.size + 1 by omega) _).setOther (a := ⟨w.heap.size + 1, 3, none⟩) (show d3 ≠ w.heap.size + 1 by omega) _).setOther (a := ⟨w.heap.size + 1, 4, none⟩) (show d3 ≠ w.heap.size + 1 by omega) _).setOther (a := ⟨w.heap.size + 1, 5, none⟩) (show d3 ≠ w.heap.size + 1 by omega) _).setOther (a := ⟨w.heap.size + 1, 6, none⟩) (show d3 ≠ w.heap.size + 1 by omega) _).setOther (a := ⟨w.heap.size + 1, 7, none⟩) (show d3 ≠ w.heap.size + 1 by omega) _).setOther (a := ⟨w.heap.size + 1, 8, none⟩) (show d3 ≠ w.heap.size + 1 by omega) _).setOther (a := ⟨w.heap.size + 1, 9, none⟩) (show d3 ≠ w.heap.size + 1 by omega) _)
  · exact ((((((((((Nd44a.out.setOther (a := ⟨w.heap.size + 1, 0, none⟩) (show d4 ≠ w.heap.size + 1 by omega) _).setOther (a := ⟨w.heap.size + 1, 1, none⟩) (show d4 ≠ w.heap.size + 1 by omega) _).setOther (a := ⟨w.heap.size + 1, 2, none⟩) (show d4 ≠ w.heap.size + 1 by omega) _).setOther (a := ⟨w.heap.size + 1, 3, none⟩) (show d4 ≠ w.heap.size + 1 by omega) _).setOther (a := ⟨w.heap.size + 1, 4, none⟩) (show d4 ≠ w.heap.size + 1 by omega) _).setOther (a := ⟨w.heap.size + 1, 5, none⟩) (show d4 ≠ w.heap.size + 1 by omega) _).setOther (a := ⟨w.heap.size + 1, 6, none⟩) (show d4 ≠ w.heap.size + 1 by omega) _).setOther (a := ⟨w.heap.size + 1, 7, none⟩) (show d4 ≠ w.heap.size + 1 by omega) _).setOther (a := ⟨w.heap.size + 1, 8, none⟩) (show d4 ≠ w.heap.size + 1 by omega) _).setOther (a := ⟨w.heap.size + 1, 9, none⟩) (show d4 ≠ w.heap.size + 1 by omega) _)
  · exact ((((((((((B4a.out.setCell (show w.heap.size ≤ w.heap.size + 1 by omega) _).setCell (show w.heap.size ≤ w.heap.size + 1 by omega) _).setCell (show w.heap.size ≤ w.heap.size + 1 by omega) _).setCell (show w.heap.size ≤ w.heap.size + 1 by omega) _).setCell (show w.heap.size ≤ w.heap.size + 1 by omega) _).setCell (show w.heap.size ≤ w.heap.size + 1 by omega) _).setCell (show w.heap.size ≤ w.heap.size + 1 by omega) _).setCell (show w.heap.size ≤ w.heap.size + 1 by omega) _).setCell (show w.heap.size ≤ w.heap.size + 1 by omega) _).setCell (show w.heap.size ≤ w.heap.size + 1 by omega) _)
end Go.Proofs.Ytonpoakimpoojaa
