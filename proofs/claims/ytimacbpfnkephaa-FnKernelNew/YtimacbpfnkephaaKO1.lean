/- Copies that the program makes: objects. -/
import Derived.Test.YtimacbpfnkephaaKX3
import Derived.Test.YtimacbpfnkephaaZB
import Derived.Test.YtimacbpfnkephaaKO0
import Derived.Test.YtimacbpfnkephaaGW
namespace Go.Proofs.Ytimacbpfnkephaa
open Go Go.RowKit Go.Deep Go.Maps Go.BigFrame Go.Shelf

/-- an object that a call made -/
def ObjV.new (B : Nat) (w : World) (t : ObjV) : Prop := t.c1.new B w ∧ t.items.new B w ∧ t.own.new B w ∧ t.c2.new B w
def ObjV.apart (t : ObjV) : Prop := ∀ b b', t.c1.a = some ⟨b, 0, none⟩ → 0 < t.c1.n → t.c2.a = some ⟨b', 0, none⟩ → 0 < t.c2.n → b ≠ b'
theorem results48 (tmps : Array Value) (W : World) (P : Nat) (x0 x1 x2 x3 x4 x5 x6 x7 x8 x9 : Value) (h : Blk W P (.cells #[x0, x1, x2, x3, x4, x5, x6, x7, x8, x9] 37)) (h2 : tmps[2]? = some (.pointer (some ⟨P, 0, none⟩))) :
    (results Try.f16 tmps).run Try.prog W = .ok (.agg #[x0, x1, x2, x3, x4, x5, x6, x7, x8, x9]) W := by
  obtain ⟨z0, z1, z2, z3, z4, z5, z6, z7, z8, z9⟩ := h.ten
  simp [results, Try.results16, go_sem, h2, z0, z1, z2, z3, z4, z5, z6, z7, z8, z9]
def zeroBlk : Obj := .cells #[.int .i64 0, .int .i64 0, .int .i64 0, .int .i64 0, .slice none 0 0, .string (ByteArray.mk #[]), .slice none 0 0, .slice none 0 0, .int .i64 0, .slice none 0 0] 37

set_option maxRecDepth 100000 in
set_option maxHeartbeats 8000000 in
theorem copiedObject_any (t : ObjV) (w : World) (ht : t.at w) (hs : t.small) :
    Calls Try.prog 16 #[t.val] w fun e w' => ∃ u : ObjV, e = .returned u.val ∧ t.same u ∧ u.new w.heap.size w' ∧ u.apart ∧ Below w.heap.size w w' := by
  have EG : ∀ args w, (callFunc 28 args).run Try.prog w = .ok (.enter 28 args) w := enters_of Try.func28 (by kernel_rfl) rfl
  have EH : ∀ args w, (callFunc 29 args).run Try.prog w = .ok (.enter 29 args) w := enters_of Try.func29 (by kernel_rfl) rfl
  have EI : ∀ args w, (callFunc 30 args).run Try.prog w = .ok (.enter 30 args) w := enters_of Try.func30 (by kernel_rfl) rfl
  have b0 : Below w.heap.size w ((w.alloc t.blk).alloc zeroBlk) := ((Below.refl _ w).alloc (Nat.le_refl _) _).alloc (by simp) _
  have A0 := (Blk.new w t.blk).alloc zeroBlk
  have R0 : Blk ((w.alloc t.blk).alloc zeroBlk) (w.heap.size + 1) zeroBlk := by
    have := Blk.new (w.alloc t.blk) zeroBlk
    simpa using this
  have T0 := hid (ht.below b0)
  unfold ObjV.blk zeroBlk at b0 A0 R0 T0
  unfold ObjV.val
  obtain ⟨x0, x1, x2, x3, x4, x5, x6, x7, x8, x9⟩ := A0.ten
  obtain ⟨m1, m2, m3, m4, m5⟩ := hs
  clear ht
  go_enter Try.func16, Try.ntmps16
  go_wp2
  generalize hV : ((w.alloc (.cells #[.int .i64 t.id, .int .i64 t.kind, .int .i64 t.up, .int .i64 t.b1, t.c1.val, .string t.data, t.items.val, t.own.val, .int .i64 t.b2, t.c2.val] 37)).alloc (.cells #[.int .i64 0, .int .i64 0, .int .i64 0, .int .i64 0, .slice none 0 0, .string (ByteArray.mk #[]), .slice none 0 0, .slice none 0 0, .int .i64 0, .slice none 0 0] 37)) = V at *
  have B0 := hid b0
  have A0' := hid A0
  have R0' := hid R0
  have PA : Hid (∀ W, Below V.heap.size V W → Calls Try.prog 28 #[.agg #[.int .i64 t.b1, t.c1.val]] W fun e w' => ∃ v, e = .returned v ∧ ∃ d : CatL, v = .agg #[.int .i64 t.b1, d.val] ∧ t.c1.same d ∧ d.new W.heap.size w' ∧ Below W.heap.size W w') := hid (fun W hW => (copiedLabel_any t.b1 t.c1 W (T0.out.below hW).1 m1).mono fun e w' ⟨d, h1, h2, h3, h4⟩ => ⟨_, h1, d, rfl, h2, h3, h4⟩)
  have PB : Hid (∀ W, Below V.heap.size V W → Calls Try.prog 28 #[.agg #[.int .i64 t.b2, t.c2.val]] W fun e w' => ∃ v, e = .returned v ∧ ∃ d : CatL, v = .agg #[.int .i64 t.b2, d.val] ∧ t.c2.same d ∧ d.new W.heap.size w' ∧ Below W.heap.size W w') := hid (fun W hW => (copiedLabel_any t.b2 t.c2 W (T0.out.below hW).2.2.2.1 m5).mono fun e w' ⟨d, h1, h2, h3, h4⟩ => ⟨_, h1, d, rfl, h2, h3, h4⟩)
  have PC : Hid (∀ W, Below V.heap.size V W → Calls Try.prog 29 #[t.own.val] W fun e w' => ∃ v, e = .returned v ∧ ∃ d : IntL, v = d.val ∧ t.own.same d ∧ d.new W.heap.size w' ∧ Below W.heap.size W w') := hid (fun W hW => (copiedInt_any t.own W (T0.out.below hW).2.2.1 m4).mono fun e w' ⟨d, h1, h2, h3, h4⟩ => ⟨_, h1, d, rfl, h2, h3, h4⟩)
  have PD : Hid (∀ W, Below V.heap.size V W → Calls Try.prog 30 #[t.items.val] W fun e w' => ∃ v, e = .returned v ∧ ∃ d : StrL, v = d.val ∧ t.items.same d ∧ d.new W.heap.size w' ∧ Below W.heap.size W w') := hid (fun W hW => (copiedStr_any t.items W (T0.out.below hW).2.1 m3.1).mono fun e w' ⟨d, h1, h2, h3, h4⟩ => ⟨_, h1, d, rfl, h2, h3, h4⟩)
  have V0 : Hid (Below V.heap.size V V.drew) := hid (Below.refl _ V).drew
  have Ad : Hid (Blk V.drew w.heap.size (.cells #[.int .i64 t.id, .int .i64 t.kind, .int .i64 t.up, .int .i64 t.b1, t.c1.val, .string t.data, t.items.val, t.own.val, .int .i64 t.b2, t.c2.val] 37)) := hid A0
  clear hV b0 A0 R0
  have HS0 : Blk V.drew w.heap.size (.cells #[.int .i64 t.id, .int .i64 t.kind, .int .i64 t.up, .int .i64 t.b1, t.c1.val, .string t.data, t.items.val, t.own.val, .int .i64 t.b2, t.c2.val] 37) := Ad.out
  refine wp_region_G 13 (fun W => Blk W w.heap.size (.cells #[.int .i64 t.id, .int .i64 t.kind, .int .i64 t.up, .int .i64 t.b1, t.c1.val, .string t.data, t.items.val, t.own.val, .int .i64 t.b2, t.c2.val] 37)) (by kernel_rfl) ?_
  have HS1 : (fun W => Blk W w.heap.size (.cells #[.int .i64 t.id, .int .i64 t.kind, .int .i64 t.up, .int .i64 t.b1, t.c1.val, .string t.data, t.items.val, t.own.val, .int .i64 t.b2, t.c2.val] 37)) V.drew := HS0
  clear HS0
  refine wpAnyG_takeD (i := 0) (d := 3) (.pointer (some ⟨w.heap.size, 3, none⟩)) rfl rfl (by kernel_rfl) (by kernel_rfl) (by kernel_rfl) (by kernel_rfl) (by kernel_rfl) (by kernel_rfl) (fun _ _ _ h => h) (Or.inl ⟨by rfl, fun W hSw => by go_simp⟩) HS1 ?_
  simp only [Act.put, List.setIfInBounds_toArray, List.set_cons_zero, List.set_cons_succ]
  refine wpAnyG_takeD (i := 1) (d := 4) (.agg #[.int .i64 t.b1, t.c1.val]) rfl rfl (by kernel_rfl) (by kernel_rfl) (by kernel_rfl) (by kernel_rfl) (by kernel_rfl) (by kernel_rfl) (fun _ _ _ h => h) (Or.inl ⟨by rfl, fun W hSw => by obtain ⟨q0, q1, q2, q3, q4, q5, q6, q7, q8, q9⟩ := Blk.ten hSw; go_simp⟩) HS1 ?_
  simp only [Act.put, List.setIfInBounds_toArray, List.set_cons_zero, List.set_cons_succ]
  refine wpAnyG_takeD (i := 3) (d := 6) (.pointer (some ⟨w.heap.size, 8, none⟩)) rfl rfl (by kernel_rfl) (by kernel_rfl) (by kernel_rfl) (by kernel_rfl) (by kernel_rfl) (by kernel_rfl) (fun _ _ _ h => h) (Or.inl ⟨by rfl, fun W hSw => by go_simp⟩) HS1 ?_
  simp only [Act.put, List.setIfInBounds_toArray, List.set_cons_zero, List.set_cons_succ]
  refine wpAnyG_takeD (i := 4) (d := 7) (.agg #[.int .i64 t.b2, t.c2.val]) rfl rfl (by kernel_rfl) (by kernel_rfl) (by kernel_rfl) (by kernel_rfl) (by kernel_rfl) (by kernel_rfl) (fun _ _ _ h => h) (Or.inl ⟨by rfl, fun W hSw => by obtain ⟨q0, q1, q2, q3, q4, q5, q6, q7, q8, q9⟩ := Blk.ten hSw; go_simp⟩) HS1 ?_
  simp only [Act.put, List.setIfInBounds_toArray, List.set_cons_zero, List.set_cons_succ]
  refine wpAnyG_takeD (i := 6) (d := 9) (.pointer (some ⟨w.heap.size, 7, none⟩)) rfl rfl (by kernel_rfl) (by kernel_rfl) (by kernel_rfl) (by kernel_rfl) (by kernel_rfl) (by kernel_rfl) (fun _ _ _ h => h) (Or.inl ⟨by rfl, fun W hSw => by go_simp⟩) HS1 ?_
  simp only [Act.put, List.setIfInBounds_toArray, List.set_cons_zero, List.set_cons_succ]
  refine wpAnyG_takeD (i := 7) (d := 10) (t.own.val) rfl rfl (by kernel_rfl) (by kernel_rfl) (by kernel_rfl) (by kernel_rfl) (by kernel_rfl) (by kernel_rfl) (fun _ _ _ h => h) (Or.inl ⟨by rfl, fun W hSw => by obtain ⟨q0, q1, q2, q3, q4, q5, q6, q7, q8, q9⟩ := Blk.ten hSw; go_simp⟩) HS1 ?_
  simp only [Act.put, List.setIfInBounds_toArray, List.set_cons_zero, List.set_cons_succ]
  refine wpAnyG_takeD (i := 9) (d := 12) (.pointer (some ⟨w.heap.size, 6, none⟩)) rfl rfl (by kernel_rfl) (by kernel_rfl) (by kernel_rfl) (by kernel_rfl) (by kernel_rfl) (by kernel_rfl) (fun _ _ _ h => h) (Or.inl ⟨by rfl, fun W hSw => by go_simp⟩) HS1 ?_
  simp only [Act.put, List.setIfInBounds_toArray, List.set_cons_zero, List.set_cons_succ]
  refine wpAnyG_takeD (i := 10) (d := 13) (t.items.val) rfl rfl (by kernel_rfl) (by kernel_rfl) (by kernel_rfl) (by kernel_rfl) (by kernel_rfl) (by kernel_rfl) (fun _ _ _ h => h) (Or.inl ⟨by rfl, fun W hSw => by obtain ⟨q0, q1, q2, q3, q4, q5, q6, q7, q8, q9⟩ := Blk.ten hSw; go_simp⟩) HS1 ?_
  simp only [Act.put, List.setIfInBounds_toArray, List.set_cons_zero, List.set_cons_succ]
  refine wpAnyG_one (i := 2) (by kernel_rfl) rfl ?_
  intro K hK
  refine step_call1g (by rfl) 28 _ _ (by rfl) EG _ (by rfl) (some 5) (by rfl) _ (PA.out _ V0.out) ?_
  rintro v w1 ⟨d1, rfl, s1, n1, h1⟩
  refine hK.out _ _ (fun _ => Blk.below HS1 h1) ?_
  have V1 := hid (then_ V0.out h1)
  have HS2 : (fun W => Blk W w.heap.size (.cells #[.int .i64 t.id, .int .i64 t.kind, .int .i64 t.up, .int .i64 t.b1, t.c1.val, .string t.data, t.items.val, t.own.val, .int .i64 t.b2, t.c2.val] 37)) w1 := Blk.below HS1 h1
  clear hK K HS1
  try simp only [Act.put, List.setIfInBounds_toArray, List.set_cons_zero, List.set_cons_succ]
  refine wpAnyG_takeD (i := 12) (d := 15) (.pointer (some ⟨w.heap.size, 3, none⟩)) rfl rfl (by kernel_rfl) (by kernel_rfl) (by kernel_rfl) (by kernel_rfl) (by kernel_rfl) (by kernel_rfl) (fun _ _ _ h => h) (Or.inl ⟨by rfl, fun W hSw => by go_simp⟩) HS2 ?_
  simp only [Act.put, List.setIfInBounds_toArray, List.set_cons_zero, List.set_cons_succ]
  refine wpAnyG_one (i := 5) (by kernel_rfl) rfl ?_
  intro K hK
  refine step_call1g (by rfl) 28 _ _ (by rfl) EG _ (by rfl) (some 8) (by rfl) _ (PB.out _ V1.out) ?_
  rintro v w2 ⟨d2, rfl, s2, n2, h2⟩
  refine hK.out _ _ (fun _ => Blk.below HS2 h2) ?_
  have V2 := hid (then_ V1.out h2)
  have HS3 : (fun W => Blk W w.heap.size (.cells #[.int .i64 t.id, .int .i64 t.kind, .int .i64 t.up, .int .i64 t.b1, t.c1.val, .string t.data, t.items.val, t.own.val, .int .i64 t.b2, t.c2.val] 37)) w2 := Blk.below HS2 h2
  clear hK K HS2
  try simp only [Act.put, List.setIfInBounds_toArray, List.set_cons_zero, List.set_cons_succ]
  refine wpAnyG_one (i := 8) (by kernel_rfl) rfl ?_
  intro K hK
  refine step_call1g (by rfl) 29 _ _ (by rfl) EH _ (by rfl) (some 11) (by rfl) _ (PC.out _ V2.out) ?_
  rintro v w3 ⟨d3, rfl, s3, n3, h3⟩
  refine hK.out _ _ (fun _ => Blk.below HS3 h3) ?_
  have V3 := hid (then_ V2.out h3)
  have HS4 : (fun W => Blk W w.heap.size (.cells #[.int .i64 t.id, .int .i64 t.kind, .int .i64 t.up, .int .i64 t.b1, t.c1.val, .string t.data, t.items.val, t.own.val, .int .i64 t.b2, t.c2.val] 37)) w3 := Blk.below HS3 h3
  clear hK K HS3
  try simp only [Act.put, List.setIfInBounds_toArray, List.set_cons_zero, List.set_cons_succ]
  refine wpAnyG_one (i := 11) (by kernel_rfl) rfl ?_
  intro K hK
  refine step_call1g (by rfl) 30 _ _ (by rfl) EI _ (by rfl) (some 14) (by rfl) _ (PD.out _ V3.out) ?_
  rintro v w4 ⟨d4, rfl, s4, n4, h4⟩
  refine hK.out _ _ (fun _ => Blk.below HS4 h4) ?_
  have V4 := hid (then_ V3.out h4)
  have HS5 : (fun W => Blk W w.heap.size (.cells #[.int .i64 t.id, .int .i64 t.kind, .int .i64 t.up, .int .i64 t.b1, t.c1.val, .string t.data, t.items.val, t.own.val, .int .i64 t.b2, t.c2.val] 37)) w4 := Blk.below HS4 h4
  clear hK K HS4
  try simp only [Act.put, List.setIfInBounds_toArray, List.set_cons_zero, List.set_cons_succ]
  unfold CatL.val IntL.val StrL.val
  obtain ⟨g0, g1, g2, g3, g4, g5, g6, g7, g8, g9⟩ := Blk.ten HS5
  have gf := Blk.warm HS5
  simp only [CatL.val, IntL.val, StrL.val] at g4 g6 g7 g9
  refine wpAnyG_one (i := 13) (by kernel_rfl) rfl ?_
  intro K hK
  go_simp
  refine hK.out _ _ (fun h => absurd h (by decide)) ?_
  clear hK K
  try simp only [Act.put, List.setIfInBounds_toArray, List.set_cons_zero, List.set_cons_succ]
  refine wpAnyG_one (i := 14) (by kernel_rfl) rfl ?_
  intro K hK
  go_simp
  refine hK.out _ _ (fun h => absurd h (by decide)) ?_
  clear hK K
  try simp only [Act.put, List.setIfInBounds_toArray, List.set_cons_zero, List.set_cons_succ]
  refine wpAnyG_one (i := 15) (by kernel_rfl) rfl ?_
  intro K hK
  go_simp
  refine hK.out _ _ (fun h => absurd h (by decide)) ?_
  clear hK K
  try simp only [Act.put, List.setIfInBounds_toArray, List.set_cons_zero, List.set_cons_succ]
  refine wpAnyG_one (i := 16) (by kernel_rfl) rfl ?_
  intro K hK
  go_simp
  refine hK.out _ _ (fun h => absurd h (by decide)) ?_
  clear hK K
  try simp only [Act.put, List.setIfInBounds_toArray, List.set_cons_zero, List.set_cons_succ]
  refine wpAnyG_one (i := 17) (by kernel_rfl) rfl ?_
  intro K hK
  go_simp
  refine hK.out _ _ (fun h => absurd h (by decide)) ?_
  clear hK K
  try simp only [Act.put, List.setIfInBounds_toArray, List.set_cons_zero, List.set_cons_succ]
  refine wpAnyG_one (i := 18) (by kernel_rfl) rfl ?_
  intro K hK
  go_simp
  refine hK.out _ _ (fun h => absurd h (by decide)) ?_
  clear hK K
  try simp only [Act.put, List.setIfInBounds_toArray, List.set_cons_zero, List.set_cons_succ]
  refine wpAnyG_one (i := 19) (by kernel_rfl) rfl ?_
  intro K hK
  go_simp
  refine hK.out _ _ (fun h => absurd h (by decide)) ?_
  clear hK K
  try simp only [Act.put, List.setIfInBounds_toArray, List.set_cons_zero, List.set_cons_succ]
  refine wpAnyG_done (by kernel_rfl) ?_ _
  have A3 := hid HS5
  have R3 : Hid (Blk w4 (w.heap.size + 1) _) := hid (R0'.out.below V4.out)
  have N1 := hid (((n1.below h2).below h3).below h4)
  have N2 := hid ((n2.below h3).below h4)
  have N3 := hid (n3.below h4)
  have N4 := hid n4
  have S1 := hid s1
  have S2 := hid s2
  have S3 := hid s3
  have S4 := hid s4
  have AP : Hid (∀ b b', d1.a = some ⟨b, 0, none⟩ → 0 < d1.n → d2.a = some ⟨b', 0, none⟩ → 0 < d2.n → b ≠ b') := hid (fun b b' e1 p1 e2 p2 => by
    obtain ⟨c, _, _, q1, _, _, q2⟩ := n1.2 p1
    obtain ⟨c', _, _, q3, q4, _⟩ := n2.2 p2
    rw [e1] at q1
    rw [e2] at q3
    cases q1
    cases q3
    have := q2.lt
    omega)
  have B3 := hid (then_ B0.out V4.out)
  have L0 := hid (show w.heap.size ≤ V.drew.heap.size from B0.out.size)
  have L1 := hid (Nat.le_trans L0.out h1.size)
  have L2 := hid (Nat.le_trans L1.out h2.size)
  have L3 := hid (Nat.le_trans L2.out h3.size)
  obtain ⟨r0, r1, r2, r3, r4, r5, r6, r7, r8, r9⟩ := R3.out.ten
  have rf := R3.out.warm
  have ne1 : ¬ w.heap.size + 1 = w.heap.size := by omega
  have ne2 : ¬ w.heap.size = w.heap.size + 1 := by omega
  clear h1 h2 h3 h4 n1 n2 n3 n4 s1 s2 s3 s4 x0 x1 x2 x3 x4 x5 x6 x7 x8 x9 PA PB PC PD EG EH EI V0 V1 V2 V3 V4 Ad HS5
  go_wp2
  refine bodyPost_ret (results48 _ _ (w.heap.size + 1) (.int .i64 t.id) (.int .i64 t.kind) (.int .i64 t.up) (.int .i64 t.b1) (.slice d1.a d1.n d1.k) (.string t.data) (.slice d4.a d4.n d4.k) (.slice d3.a d3.n d3.k) (.int .i64 t.b2) (.slice d2.a d2.n d2.k) (Blk.all10 ((((((R3.out.other (by omega) _).other (by omega) _).other (by omega) _).other (by omega) _).other (by omega) _).other (by omega) _) _ _ _ _ _ _ _ _ _ _) rfl) rfl ⟨⟨t.id, t.kind, t.up, t.b1, d1, t.data, d4, d3, t.b2, d2⟩, rfl, ⟨rfl, rfl, rfl, rfl, S1.out, rfl, S4.out, S3.out, rfl, S2.out⟩, ⟨?_, ?_, ?_, ?_⟩, AP.out, ?_⟩
  · refine (N1.out.low L0.out).of (by simp) (fun g hg hn' => ?_)
    have q1 := N1.out.ne A3.out (by decide) g hg hn'
    have q2 := N1.out.ne R3.out (by decide) g hg hn'
    iterate 16 rw [blk_setCell_other _ _ _ _ (by dsimp only; omega)]
  · refine (N4.out.low L3.out).of (by simp) (fun g hg hn' => ?_)
    have q1 := N4.out.ne A3.out (by decide) g hg hn'
    have q2 := N4.out.ne R3.out (by decide) g hg hn'
    iterate 16 rw [blk_setCell_other _ _ _ _ (by dsimp only; omega)]
  · refine (N3.out.low L2.out).of (by simp) (fun g hg hn' => ?_)
    have q1 := N3.out.ne A3.out (by decide) g hg hn'
    have q2 := N3.out.ne R3.out (by decide) g hg hn'
    iterate 16 rw [blk_setCell_other _ _ _ _ (by dsimp only; omega)]
  · refine (N2.out.low L1.out).of (by simp) (fun g hg hn' => ?_)
    have q1 := N2.out.ne A3.out (by decide) g hg hn'
    have q2 := N2.out.ne R3.out (by decide) g hg hn'
    iterate 16 rw [blk_setCell_other _ _ _ _ (by dsimp only; omega)]
  · iterate 16 refine Below.setCell ?_ (by dsimp only; omega) _
    exact B3.out
end Go.Proofs.Ytimacbpfnkephaa
