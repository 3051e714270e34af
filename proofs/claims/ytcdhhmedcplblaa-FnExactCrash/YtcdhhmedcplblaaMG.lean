/- FnExactSync: the walk. -/
import Derived.Test.YtcdhhmedcplblaaMF
namespace Go.Proofs.Ytcdhhmedcplblaa
open Go Go.RowKit Go.Deep Go.Maps

theorem DiskV.row.rowD {w : World} {d : DiskV} {x y z lo : Nat} (h : d.row w x y z) (h1 : lo ≤ x ∧ lo ≤ y ∧ lo ≤ z ∧ x ≠ y) : RowD w lo w.heap.size (.slice (some ⟨x, 0, none⟩) d.live.n d.live.n) (.slice (some ⟨y, 0, none⟩) d.safe.n d.safe.n) (.slice (some ⟨z, 0, none⟩) d.ops.n d.ops.n) d.live.n d.safe.n d.ops.n :=
  ⟨.inr ⟨x, _, _, _, rfl, h.1, Nat.le_refl _⟩, .inr ⟨y, _, _, _, rfl, h.2.1, Nat.le_refl _⟩, .inr ⟨z, _, _, _, rfl, h.2.2, Nat.le_refl _⟩, .inr (fun e => h1.2.2.2 (by simpa [Value.ownBlock] using e)),
   fun b hb => by have e : x = b := by simpa [Value.ownBlock] using hb
                  subst e; exact ⟨h1.1, h.1.lt⟩,
   fun b hb => by have e : y = b := by simpa [Value.ownBlock] using hb
                  subst e; exact ⟨h1.2.1, h.2.1.lt⟩,
   fun b hb => by have e : z = b := by simpa [Value.ownBlock] using hb
                  subst e; exact ⟨h1.2.2.1, h.2.2.lt⟩⟩
theorem AnsI.rowD {w : World} {B : Nat} {vl vs vo : Value} {L S : List FileV} {O : List OpV} (h : AnsI w B vl vs vo L S O) : RowD w B w.heap.size vl vs vo L.length S.length O.length :=
  ⟨h.l.rowF, h.s.rowF, h.o.rowO, h.ap, fun b hb => World.ownsRow.lt h.l b hb, fun b hb => World.ownsRow.lt h.s b hb, fun b hb => World.ownsRow.lt h.o b hb⟩
theorem AnsI.dat {w : World} {B : Nat} {vl vs vo : Value} {L S : List FileV} {O : List OpV} (h : AnsI w B vl vs vo L S O) : DAt w vl vs vo L.length S.length O.length (fileAt L) (fileAt S) (opAt O) := ⟨h.l.atF, h.s.atF, h.o.atO⟩
theorem RowD.shapes {w : World} {lo hi : Nat} {vl vs vo : Value} {nl ns no : Nat} (h : RowD w lo hi vl vs vo nl ns no) : (∃ a c, vl = .slice a nl c) ∧ (∃ a c, vs = .slice a ns c) ∧ ∃ a c, vo = .slice a no c := by
  refine ⟨?_, ?_, ?_⟩
  · rcases h.l with ⟨rfl, c, rfl⟩ | ⟨b, c, _, _, rfl, _⟩ <;> exact ⟨_, _, rfl⟩
  · rcases h.s with ⟨rfl, c, rfl⟩ | ⟨b, c, _, _, rfl, _⟩ <;> exact ⟨_, _, rfl⟩
  · rcases h.o with ⟨rfl, c, rfl⟩ | ⟨b, c, _, _, rfl, _⟩ <;> exact ⟨_, _, rfl⟩
theorem syncL_len (d : DiskV) (h : d.small) : (syncL d).length ≤ 1048576 := by
  unfold syncL
  split
  · rw [toL_len]; exact h.1
  · exact Nat.zero_le _

set_option maxRecDepth 100000 in
set_option maxHeartbeats 8000000 in
theorem exactSync_walk (d : DiskV) (w : World) (hd : d.at w) :
    Calls Try.prog 4 #[d.val] w fun e w' => e = .returned (.bool true) ∧ Below w.heap.size w w' := by
  have hb0 := (Below.refl _ w).alloc (Nat.le_refl _) (.cells #[.slice d.live.a d.live.n d.live.k, .slice d.safe.a d.safe.n d.safe.k, .slice d.ops.a d.ops.n d.ops.k] 25)
  have A0 := Blk.new w (.cells #[.slice d.live.a d.live.n d.live.k, .slice d.safe.a d.safe.n d.safe.k, .slice d.ops.a d.ops.n d.ops.k] 25)
  have HK := hid hd
  have C1 := hid (szDisk_any d 1048576 _ (hd.below hb0) (by omega) (by omega))
  unfold DiskV.val at C1
  unfold DiskV.val
  obtain ⟨x0, x1, x2⟩ := A0.three
  clear hd
  go_enter Try.func4, Try.ntmps4
  go_wp2_with fail
  refine C1.out.mono ?_
  rintro e w1 ⟨r, rfl, hr, hb1⟩
  have A1 := A0.below hb1
  have B1 := then_ hb0 hb1
  clear x0 x1 x2 C1 A0 hb0 hb1
  obtain ⟨x0, x1, x2⟩ := A1.three
  rcases hr with rfl | ⟨r0, r1⟩
  · go_wp2
    go_ret
    exact ⟨rfl, B1⟩
  have hs : d.sz ≤ 1048576 := by omega
  have HS := hid hs
  have SM := hid (DiskV.small_of hs)
  have m1 : d.live.n ≤ 4194304 := by have := SM.out.1; omega
  have m2 : d.safe.n ≤ 4194304 := by have := SM.out.2.1; omega
  have m3 : d.ops.n ≤ 4194304 := by have := SM.out.2.2; omega
  have ml : (syncL d).length ≤ 4194304 := by have := syncL_len d SM.out; omega
  have C3 : Hid (∀ (x y z : Nat) (W : World), d.row W x y z → Calls Try.prog 16 #[.agg #[.slice (some ⟨x, 0, none⟩) d.live.n d.live.n, .slice (some ⟨y, 0, none⟩) d.safe.n d.safe.n, .slice (some ⟨z, 0, none⟩) d.ops.n d.ops.n]] W fun e w' => ∃ vl vs vo, e = .returned (.agg #[vl, vs, vo]) ∧ DAt w' vl vs vo (syncL d).length (syncL d).length 0 (fileAt (syncL d)) (fileAt (syncL d)) (opAt []) ∧ Below W.heap.size W w') := hid (fun x y z W h => (specSync_any (d.own x y z) W (h.at HK.out) HS.out).mono fun _ _ ⟨a, b, c, h1, h2, h3⟩ => ⟨a, b, c, h1, h2.dat, h3⟩)
  have C5 : Hid (∀ (x y z : Nat) (W : World), d.row W x y z → Calls Try.prog 17 #[.agg #[.slice (some ⟨x, 0, none⟩) d.live.n d.live.n, .slice (some ⟨y, 0, none⟩) d.safe.n d.safe.n, .slice (some ⟨z, 0, none⟩) d.ops.n d.ops.n]] W fun e w' => ∃ vl vs vo, e = .returned (.agg #[vl, vs, vo]) ∧ AnsI w' W.heap.size vl vs vo (syncL d) (syncL d) [] ∧ Below W.heap.size W w') := hid (fun x y z W h => implSync_any (d.own x y z) W (h.at HK.out) HS.out)
  have CT : Hid (∀ W, Below w.heap.size w W → Calls Try.prog 10 #[.agg #[.slice d.live.a d.live.n d.live.k, .slice d.safe.a d.safe.n d.safe.k, .slice d.ops.a d.ops.n d.ops.k]] W fun e w' => ∃ x y z, e = .returned (.agg #[.slice (some ⟨x, 0, none⟩) d.live.n d.live.n, .slice (some ⟨y, 0, none⟩) d.safe.n d.safe.n, .slice (some ⟨z, 0, none⟩) d.ops.n d.ops.n]) ∧ d.row w' x y z ∧ (W.heap.size ≤ x ∧ W.heap.size ≤ y ∧ W.heap.size ≤ z ∧ x ≠ y) ∧ Below W.heap.size W w') := hid (fun W hW => toDisk_since d W (HK.out.below hW) SM.out)
  clear hs
  have r2 : ¬ r < 0 := by omega
  go_wp2_with fail
  refine (CT.out _ B1).mono ?_
  rintro e w2 ⟨x, y, z, rfl, row1, _, hb2⟩
  have A2 := A1.below hb2
  have B2 := then_ B1 hb2
  clear x0 x1 x2 A1 B1 hb2
  go_wp2_with fail
  refine (C3.out x y z w2 row1).mono ?_
  rintro e w3 ⟨wl, ws, wo, rfl, dw3, hb3⟩
  have LW := hid dw3.low
  obtain ⟨⟨al, cl, rfl, _⟩, ⟨aq, cq, rfl, _⟩, ⟨ao, co, rfl, _⟩⟩ := id dw3
  obtain ⟨WC, hWC⟩ : ∃ WC, WC = Obj.cells #[.slice al (syncL d).length cl, .slice aq (syncL d).length cq, .slice ao 0 co] 33 := ⟨_, rfl⟩
  have bw : Below w3.heap.size w3 (w3.alloc WC) := (Below.refl _ w3).alloc (Nat.le_refl _) _
  have PW3 := Blk.new w3 WC
  have A3 := (A2.below hb3).below bw
  have B3 := then_ (then_ B2 hb3) bw
  have DW3 := hid (dw3.below bw)
  have lw : w3.heap.size < (w3.alloc WC).heap.size := by simp
  subst hWC
  clear A2 B2 hb3 row1 bw dw3
  obtain ⟨x0, x1, x2⟩ := A3.three
  go_wp2_with fail
  refine (CT.out _ B3).mono ?_
  rintro e w4 ⟨x', y', z', rfl, row4, hx4, hb4⟩
  have RX := hid (row4.rowD hx4)
  generalize w3.alloc (.cells #[.slice al (syncL d).length cl, .slice aq (syncL d).length cq, .slice ao 0 co] 33) = V3 at *
  obtain ⟨XC, hXC⟩ : ∃ XC, XC = Obj.cells #[.slice (some ⟨x', 0, none⟩) d.live.n d.live.n, .slice (some ⟨y', 0, none⟩) d.safe.n d.safe.n, .slice (some ⟨z', 0, none⟩) d.ops.n d.ops.n] 33 := ⟨_, rfl⟩
  have bx : Below w4.heap.size w4 (w4.alloc XC) := (Below.refl _ w4).alloc (Nat.le_refl _) _
  have PX4 := Blk.new w4 XC
  have PW4 := (PW3.below hb4).below bx
  have A4 := (A3.below hb4).below bx
  have B4 := then_ (then_ B3 hb4) bx
  have DW4 := hid ((DW3.out.below hb4).below bx)
  have RX4 := hid (RX.out.below bx)
  have row4' := row4.below bx
  have s34 : V3.heap.size ≤ w4.heap.size := hb4.size
  have lx : w4.heap.size < (w4.alloc XC).heap.size := by simp
  have sw3 : w.heap.size < V3.heap.size := A3.lt
  subst hXC
  clear x0 x1 x2 PW3 A3 B3 hb4 DW3 bx RX row4 hx4
  go_wp2_with fail
  refine (C5.out x' y' z' _ row4').mono ?_
  rintro e w5 ⟨gl, gs, go, rfl, ans5, hb5⟩
  generalize w4.alloc (.cells #[.slice (some ⟨x', 0, none⟩) d.live.n d.live.n, .slice (some ⟨y', 0, none⟩) d.safe.n d.safe.n, .slice (some ⟨z', 0, none⟩) d.ops.n d.ops.n] 33) = V4 at *
  obtain ⟨hgl, hgs, hgo⟩ := ans5.rowD.shapes
  have ANS := hid ans5
  obtain ⟨bl, kl, rfl⟩ := hgl
  obtain ⟨bq, kq, rfl⟩ := hgs
  obtain ⟨bo, ko, rfl⟩ := (show ∃ a c, go = .slice a 0 c from hgo)
  obtain ⟨GC, hGC⟩ : ∃ GC, GC = Obj.cells #[.slice bl (syncL d).length kl, .slice bq (syncL d).length kq, .slice bo 0 ko] 33 := ⟨_, rfl⟩
  have bg : Below w5.heap.size w5 (w5.alloc GC) := (Below.refl _ w5).alloc (Nat.le_refl _) _
  have PG5 := Blk.new w5 GC
  have PX5 := (PX4.below hb5).below bg
  have PW5 := (PW4.below hb5).below bg
  have A5 := (A4.below hb5).below bg
  have B5 := then_ (then_ B4 hb5) bg
  have DW5 := hid ((DW4.out.below hb5).below bg)
  have RX5 := hid ((RX4.out.below hb5).below bg)
  have RG5 := hid (ANS.out.rowD.below bg)
  have DG5 := hid (ANS.out.dat.below bg)
  have row5 := (row4'.below hb5).below bg
  have s45 : V4.heap.size ≤ w5.heap.size := hb5.size
  subst hGC
  clear PX4 PW4 A4 B4 hb5 DW4 bg RX4 row4' ans5 ANS
  obtain ⟨u0, u1, u2⟩ := PG5.three
  obtain ⟨v0, v1, v2⟩ := PX5.three
  obtain ⟨y0, y1, y2⟩ := PW5.three
  obtain ⟨x0, x1, x2⟩ := A5.three
  go_wp2_with fail
  refine (eqDisk_any _ _ _ _ _ _ (syncL d).length (syncL d).length 0 (fileAt (syncL d)) (fileAt (syncL d)) (opAt []) _ DG5.out DW5.out ml ml (by omega)).mono ?_
  rintro e w6 ⟨rfl, hb⟩
  have PG6 := PG5.below hb
  have PX6 := PX5.below hb
  have PW6 := PW5.below hb
  have A6 := A5.below hb
  have B6 := then_ B5 hb
  have DW6 := hid (DW5.out.below hb)
  have DG6 := hid (DG5.out.below hb)
  have RX6 := hid (RX5.out.below hb)
  have RG6 := hid (RG5.out.below hb)
  have row6 := row5.below hb
  clear u0 u1 u2 v0 v1 v2 y0 y1 y2 x0 x1 x2 hb PG5 PX5 PW5 A5 B5 DW5 DG5 RX5 RG5 row5
  obtain ⟨u0, u1, u2⟩ := PG6.three
  obtain ⟨v0, v1, v2⟩ := PX6.three
  obtain ⟨y0, y1, y2⟩ := PW6.three
  obtain ⟨x0, x1, x2⟩ := A6.three
  have Xd : Blk w6.drew w4.heap.size (.cells #[.slice (some ⟨x', 0, none⟩) d.live.n d.live.n, .slice (some ⟨y', 0, none⟩) d.safe.n d.safe.n, .slice (some ⟨z', 0, none⟩) d.ops.n d.ops.n] 33) := PX6
  have Ad : Blk w6.drew w.heap.size (.cells #[.slice d.live.a d.live.n d.live.k, .slice d.safe.a d.safe.n d.safe.k, .slice d.ops.a d.ops.n d.ops.k] 25) := A6
  have C7 : Hid (∀ (a b c : Nat) (W : World), Below w6.drew.heap.size w6.drew W → d.row W a b c → Calls Try.prog 13 #[.agg #[.slice (some ⟨x', 0, none⟩) d.live.n d.live.n, .slice (some ⟨y', 0, none⟩) d.safe.n d.safe.n, .slice (some ⟨z', 0, none⟩) d.ops.n d.ops.n], .agg #[.slice (some ⟨a, 0, none⟩) d.live.n d.live.n, .slice (some ⟨b, 0, none⟩) d.safe.n d.safe.n, .slice (some ⟨c, 0, none⟩) d.ops.n d.ops.n]] W fun e w' => e = .returned (.bool true) ∧ Below W.heap.size W w') := hid (fun a b c W hW hr => eqDisk_v d x' y' z' a b c W SM.out ((show d.row w6.drew x' y' z' from row6).below hW) hr)
  have C6 := hid (CT.out w6.drew B6.drew)
  go_wp2_with fail
  go_region_held3 (fun w' => w'.cell? ⟨w4.heap.size, 0, none⟩ = some (.slice (some ⟨x', 0, none⟩) d.live.n d.live.n) ∧ w'.cell? ⟨w4.heap.size, 1, none⟩ = some (.slice (some ⟨y', 0, none⟩) d.safe.n d.safe.n) ∧ w'.cell? ⟨w4.heap.size, 2, none⟩ = some (.slice (some ⟨z', 0, none⟩) d.ops.n d.ops.n) ∧ w'.cell? ⟨w.heap.size, 0, none⟩ = some (.slice d.live.a d.live.n d.live.k) ∧ w'.cell? ⟨w.heap.size, 1, none⟩ = some (.slice d.safe.a d.safe.n d.safe.k) ∧ w'.cell? ⟨w.heap.size, 2, none⟩ = some (.slice d.ops.a d.ops.n d.ops.k)) (first | go_keep | (simp only [*, and_self]))
    (first
      | (go_at_call 10; refine C6.out.mono ?_; rintro e w7 ⟨a, b, c, rfl, row7, _, hb7⟩; obtain ⟨p0, p1, p2⟩ := (Ad.below hb7).three; obtain ⟨q0, q1, q2⟩ := (Xd.below hb7).three)
      | (go_at_call 13; refine (C7.out a b c w7 hb7 row7).mono ?_; rintro e w8 ⟨rfl, hb8⟩; obtain ⟨i0, i1, i2⟩ := ((Ad.below hb7).below hb8).three; obtain ⟨j0, j1, j2⟩ := ((Xd.below hb7).below hb8).three))
  have hb : Below w6.heap.size w6 w8 := (Below.refl _ w6).drew.trans (then_ hb7 hb8)
  clear p0 p1 p2 q0 q1 q2 i0 i1 i2 j0 j1 j2 Ad Xd C6 C7 hb7 hb8 row7
  have PG8 := PG6.below hb
  have PX8 := PX6.below hb
  have PW8 := PW6.below hb
  have A8 := A6.below hb
  have B8 := then_ B6 hb
  have DW8 := hid (DW6.out.below hb)
  have DG8 := hid (DG6.out.below hb)
  have RX8 := hid (RX6.out.below hb)
  have RG8 := hid (RG6.out.below hb)
  have row8 := row6.below hb
  clear u0 u1 u2 v0 v1 v2 y0 y1 y2 x0 x1 x2 hb PG6 PX6 PW6 A6 B6 DW6 DG6 RX6 RG6 row6
  clear row8
  obtain ⟨u0, u1, u2⟩ := PG8.three
  obtain ⟨v0, v1, v2⟩ := PX8.three
  obtain ⟨y0, y1, y2⟩ := PW8.three
  obtain ⟨x0, x1, x2⟩ := A8.three
  go_wp2_with fail
  refine (markDisk_any _ _ _ d.live.n d.safe.n d.ops.n 1 _ _ _ RX8.out (by omega) (by omega) m1 m2 m3).mono ?_
  rintro e w9 ⟨rfl, _, _, M9⟩
  have PG9 := PG8.mk M9 (.inr (by omega))
  have PX9 := PX8.mk M9 (.inr (Nat.le_refl _))
  have PW9 := PW8.mk M9 (.inl lw)
  have A9 := A8.mk M9 (.inl sw3)
  have B9 : Below w.heap.size w w9 := B8.trans (M9.below (by omega) B8.size)
  have DW9 := hid (DW8.out.under M9 LW.out (by omega))
  have DG9 := hid (DG8.out.over M9 RG8.out (by omega))
  have RG9 := hid (RG8.out.mark M9 (.inl (by omega)))
  clear u0 u1 u2 v0 v1 v2 y0 y1 y2 x0 x1 x2 PG8 PX8 PW8 A8 B8 DW8 DG8 RG8 RX8 M9
  obtain ⟨u0, u1, u2⟩ := PG9.three
  obtain ⟨v0, v1, v2⟩ := PX9.three
  obtain ⟨y0, y1, y2⟩ := PW9.three
  obtain ⟨x0, x1, x2⟩ := A9.three
  have nk : ¬ ((1 + 2 * d.live.n + 2 * d.safe.n + 4 * d.ops.n : Nat) : Int) < 0 := by omega
  go_wp2_with fail
  refine (eqDisk_any _ _ _ _ _ _ (syncL d).length (syncL d).length 0 (fileAt (syncL d)) (fileAt (syncL d)) (opAt []) _ DG9.out DW9.out ml ml (by omega)).mono ?_
  rintro e w10 ⟨rfl, hb⟩
  have PG10 := PG9.below hb
  have PX10 := PX9.below hb
  have PW10 := PW9.below hb
  have A10 := A9.below hb
  have B10 := then_ B9 hb
  have DW10 := hid (DW9.out.below hb)
  have DG10 := hid (DG9.out.below hb)
  have RG10 := hid (RG9.out.below hb)
  clear u0 u1 u2 v0 v1 v2 y0 y1 y2 x0 x1 x2 hb PG9 PX9 PW9 A9 B9 DW9 DG9 RG9
  obtain ⟨u0, u1, u2⟩ := PG10.three
  obtain ⟨v0, v1, v2⟩ := PX10.three
  obtain ⟨y0, y1, y2⟩ := PW10.three
  obtain ⟨x0, x1, x2⟩ := A10.three
  clear nk
  go_wp2_with fail
  refine (markDisk_any _ _ _ (syncL d).length (syncL d).length 0 1 _ _ _ RG10.out (by omega) (by omega) ml ml (by omega)).mono ?_
  rintro e w11 ⟨rfl, _, mk11, M11⟩
  have MG11 := hid mk11
  have PG11 := PG10.mk M11 (.inr (Nat.le_refl _))
  have PX11 := PX10.mk M11 (.inl lx)
  have PW11 := PW10.mk M11 (.inl (by omega))
  have A11 := A10.mk M11 (.inl (by omega))
  have B11 : Below w.heap.size w w11 := B10.trans (M11.below (by omega) B10.size)
  have DW11 := hid (DW10.out.under M11 LW.out (by omega))
  clear u0 u1 u2 v0 v1 v2 y0 y1 y2 x0 x1 x2 PG10 PX10 PW10 A10 B10 DW10 DG10 RG10 M11 mk11
  obtain ⟨u0, u1, u2⟩ := PG11.three
  obtain ⟨v0, v1, v2⟩ := PX11.three
  obtain ⟨y0, y1, y2⟩ := PW11.three
  obtain ⟨x0, x1, x2⟩ := A11.three
  go_wp2_with fail
  refine (heldDisk_any _ _ _ (syncL d).length (syncL d).length 0 1 _ MG11.out (by omega) (by omega) ml ml (by omega)).mono ?_
  rintro e w12 ⟨rfl, hb⟩
  have PG12 := PG11.below hb
  have PX12 := PX11.below hb
  have PW12 := PW11.below hb
  have A12 := A11.below hb
  have B12 := then_ B11 hb
  have DW12 := hid (DW11.out.below hb)
  have MG12 := hid (MG11.out.below hb)
  clear u0 u1 u2 v0 v1 v2 y0 y1 y2 x0 x1 x2 hb PG11 PX11 PW11 A11 B11 DW11 MG11
  obtain ⟨u0, u1, u2⟩ := PG12.three
  obtain ⟨v0, v1, v2⟩ := PX12.three
  obtain ⟨y0, y1, y2⟩ := PW12.three
  obtain ⟨x0, x1, x2⟩ := A12.three
  have nk : ¬ (((1 + 2 * (syncL d).length + 2 * (syncL d).length + 4 * 0 : Nat) : Nat) : Int) < 0 := by omega
  go_wp2_with fail
  refine (CT.out _ B12).mono ?_
  rintro e w13 ⟨x2', y2', z2', rfl, row13, _, hb⟩
  have PG13 := PG12.below hb
  have PX13 := PX12.below hb
  have PW13 := PW12.below hb
  have A13 := A12.below hb
  have B13 := then_ B12 hb
  have DW13 := hid (DW12.out.below hb)
  have MG13 := hid (MG12.out.below hb)
  clear u0 u1 u2 v0 v1 v2 y0 y1 y2 x0 x1 x2 hb PG12 PX12 PW12 A12 B12 DW12 MG12
  go_wp2_with fail
  refine (C5.out x2' y2' z2' _ row13).mono ?_
  rintro e w14 ⟨hl, hs', ho, rfl, ans14, hb⟩
  obtain ⟨h1, h2, h3⟩ := ans14.rowD.shapes
  have ANS := hid ans14
  obtain ⟨ml', kl', rfl⟩ := h1
  obtain ⟨mq', kq', rfl⟩ := h2
  obtain ⟨mo', ko', rfl⟩ := (show ∃ a c, ho = .slice a 0 c from h3)
  obtain ⟨HC, hHC⟩ : ∃ HC, HC = Obj.cells #[.slice ml' (syncL d).length kl', .slice mq' (syncL d).length kq', .slice mo' 0 ko'] 33 := ⟨_, rfl⟩
  have bh : Below w14.heap.size w14 (w14.alloc HC) := (Below.refl _ w14).alloc (Nat.le_refl _) _
  have PH15 := Blk.new w14 HC
  have hbb := then_ hb bh
  have DH15 := hid (ANS.out.dat.below bh)
  have PG15 := PG13.below hbb
  have PW15 := PW13.below hbb
  have A15 := A13.below hbb
  have B15 := then_ B13 hbb
  have DW15 := hid (DW13.out.below hbb)
  have MG15 := hid (MG13.out.below hbb)
  subst hHC
  clear hb bh hbb PG13 PX13 PW13 A13 B13 DW13 MG13 ANS ans14 row13
  obtain ⟨u0, u1, u2⟩ := PG15.three
  obtain ⟨y0, y1, y2⟩ := PW15.three
  obtain ⟨x0, x1, x2⟩ := A15.three
  obtain ⟨v0, v1, v2⟩ := PH15.three
  go_wp2_with fail
  refine (eqDisk_any _ _ _ _ _ _ (syncL d).length (syncL d).length 0 (fileAt (syncL d)) (fileAt (syncL d)) (opAt []) _ DH15.out DW15.out ml ml (by omega)).mono ?_
  rintro e w16 ⟨rfl, hb⟩
  have PG16 := PG15.below hb
  have B16 := then_ B15 hb
  have MG16 := hid (MG15.out.below hb)
  clear u0 u1 u2 v0 v1 v2 y0 y1 y2 x0 x1 x2 PG15 PW15 A15 B15 DW15 MG15 PH15 DH15 hb
  obtain ⟨u0, u1, u2⟩ := PG16.three
  go_wp2_with fail
  refine (heldDisk_any _ _ _ (syncL d).length (syncL d).length 0 1 _ MG16.out (by omega) (by omega) ml ml (by omega)).mono ?_
  rintro e w17 ⟨rfl, hb⟩
  have B17 := then_ B16 hb
  clear u0 u1 u2 hb PG16 B16 MG16
  go_wp2
  go_ret
  exact ⟨rfl, B17⟩
end Go.Proofs.Ytcdhhmedcplblaa
