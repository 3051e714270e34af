/- DrawReplace. -/
import Derived.Test.YtcchpeebhkiacaaZI
namespace Go.Proofs.Ytcchpeebhkiacaa
open Go Go.RowKit Go.Deep Go.Maps

structure RpSt (w w0 : World) (rb : Nat) (a : Option Addr) (n cap B PD : Nat) (wr : World) (d : DiskV) : Prop where
  dat : d.at wr
  dnew : d.new B
  hd : Blk wr PD (.cells #[.slice d.live.a d.live.n d.live.k, .slice d.safe.a d.safe.n d.safe.k, .slice d.ops.a d.ops.n d.ops.k] 27)
  r1 : Blk wr w.heap.size (.cells #[.slice none 0 0, .slice none 0 0, .slice none 0 0] 27)
  rd : Rd w0 wr rb a n cap
  be : Below w.heap.size w wr
  l0 : w.heap.size + 1 ≤ w0.heap.size
  l1 : w0.heap.size ≤ rb
  l2 : rb < B
  l3 : B ≤ PD
theorem RpSt.grown {w w0 : World} {rb : Nat} {a : Option Addr} {n cap B PD : Nat} {wr : World} {d : DiskV} {wr' : World} (h : RpSt w w0 rb a n cap B PD wr d) (hg : wr.grownBy wr' (some rb)) (hr : Rd w0 wr' rb a n cap) : RpSt w w0 rb a n cap B PD wr' d := by
  obtain ⟨h1, h2, h3, h5, h7, h8, l0, l1, l2, l3⟩ := h
  exact ⟨h1.grown h2 hg l2, h2, h3.grown hg (by simp; omega), h5.grown hg (by simp; omega), hr, h8.trans (below_grown hg h8.size (fun j e => by cases e; omega)), l0, l1, l2, l3⟩
theorem RpSt.below {w w0 : World} {rb : Nat} {a : Option Addr} {n cap B PD : Nat} {wr : World} {d : DiskV} {wr' : World} (h : RpSt w w0 rb a n cap B PD wr d) (hb : Below wr.heap.size wr wr') : RpSt w w0 rb a n cap B PD wr' d :=
  ⟨h.dat.below hb, h.dnew, h.hd.below hb, h.r1.below hb, h.rd.below hb, h.be.trans (hb.mono h.be.size), h.l0, h.l1, h.l2, h.l3⟩
theorem rp_results {F : Func} (tmps : Array Value) (W : World) (P : Nat) (x y z u v : Value) (hF : F.results = #[.cell 2 27, .tmp 3, .tmp 4]) (h : Blk W P (.cells #[x, y, z] 27)) (h2 : tmps[2]? = some (.pointer (some ⟨P, 0, none⟩))) (h3 : tmps[3]? = some u) (h4 : tmps[4]? = some v) :
    (results F tmps).run Try.prog W = .ok (.tuple #[.agg #[x, y, z], u, v]) W := by
  obtain ⟨z0, z1, z2⟩ := h.three
  simp [results, hF, go_sem, h2, h3, h4, z0, z1, z2]

set_option maxRecDepth 100000 in
set_option maxHeartbeats 16000000 in
theorem drawReplace_any (a : Option Addr) (n cap : Nat) (w : World) (hn : n ≤ 1048576) (hb : BytesAt w a n) :
    Calls Try.prog 17 #[.slice a n cap] w fun e w' => ∃ (d : DiskV) (s t : ByteArray), e = .returned (.tuple #[d.val, .string s, .string t]) ∧ d.at w' ∧ d.sz ≤ 500000 ∧ s.size ≤ 100 ∧ t.size ≤ 8 ∧ Below w.heap.size w w' := by
  have b0 : Below w.heap.size w (w.alloc (.cells #[.slice none 0 0, .slice none 0 0, .slice none 0 0] 27)) := (Below.refl _ w).alloc (Nat.le_refl _) _
  have A0 := Blk.new w (.cells #[.slice none 0 0, .slice none 0 0, .slice none 0 0] 27)
  have hsz : (w.alloc (.cells #[.slice none 0 0, .slice none 0 0, .slice none 0 0] 27)).heap.size = w.heap.size + 1 := by simp
  have C1 := hid (l1Open_any a n cap _ hn (hb.below b0))
  clear hb
  go_enter Try.func17, Try.ntmps17
  go_wp2_with fail
  refine C1.out.mono ?_
  rintro e w1 ⟨rb, rfl, R1⟩
  have hr := R1.le
  have lr := R1.lt
  have A1 := A0.below R1.E
  have B1 := then_ b0 R1.E
  have C2 := hid (disk_any _ rb a n cap w1 R1)
  clear C1 R1
  go_wp2_with fail
  refine C2.out.mono ?_
  rintro e w2 ⟨d, rfl, hd, hs, hw, R2, g2⟩
  have A2 := A1.grown g2 (by simp; omega)
  have B2 := B1.trans (below_grown g2 B1.size (fun j e => by cases e; omega))
  have s2 := g2.size
  unfold DiskV.val
  have bd : Below w2.heap.size w2 (w2.alloc (.cells #[.slice d.live.a d.live.n d.live.k, .slice d.safe.a d.safe.n d.safe.k, .slice d.ops.a d.ops.n d.ops.k] 27)) := (Below.refl _ w2).alloc (Nat.le_refl _) _
  have S2 : Hid (RpSt w (w.alloc (.cells #[.slice none 0 0, .slice none 0 0, .slice none 0 0] 27)) rb a n cap w1.heap.size w2.heap.size (w2.alloc (.cells #[.slice d.live.a d.live.n d.live.k, .slice d.safe.a d.safe.n d.safe.k, .slice d.ops.a d.ops.n d.ops.k] 27)) d) := hid ⟨hd.below bd, hw, Blk.new w2 _, A2.below bd, R2.below bd, B2.trans (bd.mono B2.size), by omega, hr, lr, s2⟩
  have bt : Below (w2.alloc (.cells #[.slice d.live.a d.live.n d.live.k, .slice d.safe.a d.safe.n d.safe.k, .slice d.ops.a d.ops.n d.ops.k] 27)).heap.size (w2.alloc (.cells #[.slice d.live.a d.live.n d.live.k, .slice d.safe.a d.safe.n d.safe.k, .slice d.ops.a d.ops.n d.ops.k] 27)) ((w2.alloc (.cells #[.slice d.live.a d.live.n d.live.k, .slice d.safe.a d.safe.n d.safe.k, .slice d.ops.a d.ops.n d.ops.k] 27)).alloc (.cells #[.string ⟨#[98, 97, 115, 101]⟩, .string ⟨#[108, 111, 103]⟩, .string ⟨#[98, 97, 115, 101]⟩, .string ⟨#[]⟩] 9)) := (Below.refl _ _).alloc (Nat.le_refl _) _
  have T3 : Hid (Blk ((w2.alloc (.cells #[.slice d.live.a d.live.n d.live.k, .slice d.safe.a d.safe.n d.safe.k, .slice d.ops.a d.ops.n d.ops.k] 27)).alloc (.cells #[.string ⟨#[98, 97, 115, 101]⟩, .string ⟨#[108, 111, 103]⟩, .string ⟨#[98, 97, 115, 101]⟩, .string ⟨#[]⟩] 9)) (w2.heap.size + 1) (.cells #[.string ⟨#[98, 97, 115, 101]⟩, .string ⟨#[108, 111, 103]⟩, .string ⟨#[98, 97, 115, 101]⟩, .string ⟨#[]⟩] 9)) := hid (by have := Blk.new (w2.alloc (.cells #[.slice d.live.a d.live.n d.live.k, .slice d.safe.a d.safe.n d.safe.k, .slice d.ops.a d.ops.n d.ops.k] 27)) (.cells #[.string ⟨#[98, 97, 115, 101]⟩, .string ⟨#[108, 111, 103]⟩, .string ⟨#[98, 97, 115, 101]⟩, .string ⟨#[]⟩] 9); simpa using this)
  have S3 := hid (S2.out.below bt)
  have C3 := hid (below_any _ rb a n cap 4 _ (by omega) S3.out.rd)
  clear C2 A0 A1 A2 B1 B2 bd hd hw R2 g2 b0 bt S2
  generalize (w.alloc (.cells #[.slice none 0 0, .slice none 0 0, .slice none 0 0] 27)) = w0 at *
  go_wp2_with fail
  refine C3.out.mono ?_
  rintro e w3 ⟨x, rfl, _, hx4, R3, g3⟩
  have hx : x < 4 := hx4 (by omega)
  have S4 := hid (S3.out.grown g3 R3)
  have T4 := T3.out.grown g3 (by simp; omega)
  obtain ⟨s, cs, hsz4⟩ := text4 (m := 8) T4 hx (by decide)
  have hx' : (x : Int) < 4 := by omega
  have hx0 : (0 : Int) ≤ (x : Int) := by omega
  have C4 := hid (once_any _ rb a n cap 12 _ (by omega) S4.out.rd)
  clear C3 S3 T3 T4 R3 g3 hx4
  go_wp2_with fail
  refine C4.out.mono ?_
  rintro e w4 ⟨b, rfl, R4, g4⟩
  have S5 := hid (S4.out.grown g4 R4)
  clear C4 S4 R4 g4 cs
  cases b with
  | false =>
    have hs8 : s.size ≤ 100 := by omega
    have CT : Hid (∀ W, Below w4.heap.size w4 W → Calls Try.prog 40 #[.pointer (some ⟨rb, 0, none⟩)] W fun e w' => ∃ t : ByteArray, e = .returned (.string t) ∧ t.size ≤ 6 ∧ RpSt w w0 rb a n cap w1.heap.size w2.heap.size w' d) := hid (fun W hW => (rdText_any _ rb a n cap W (S5.out.rd.below hW)).mono fun _ _ ⟨t, e1, h1, h2, h3⟩ => ⟨t, e1, h1, (S5.out.below hW).grown h3 h2⟩)
    have BX : Hid (∀ W, Below w4.heap.size w4 W → W.cell? ⟨w2.heap.size, 0, none⟩ = some (.slice d.live.a d.live.n d.live.k) ∧ W.cell? ⟨w2.heap.size, 1, none⟩ = some (.slice d.safe.a d.safe.n d.safe.k) ∧ W.cell? ⟨w2.heap.size, 2, none⟩ = some (.slice d.ops.a d.ops.n d.ops.k)) := hid (fun W hW => (S5.out.hd.below hW).three)
    have H1 := hid (below_drew (Below.refl w4.heap.size w4))
    obtain ⟨x0, x1, x2⟩ := BX.out _ H1.out
    go_wp2_with fail
    have k1 : ¬ w.heap.size = w2.heap.size := by have := S5.out.l0; have := S5.out.l1; have := S5.out.l2; have := S5.out.l3; omega
    go_region_held3 (fun w' => w'.cell? ⟨w2.heap.size, 0, none⟩ = some (.slice d.live.a d.live.n d.live.k) ∧ w'.cell? ⟨w2.heap.size, 1, none⟩ = some (.slice d.safe.a d.safe.n d.safe.k) ∧ w'.cell? ⟨w2.heap.size, 2, none⟩ = some (.slice d.ops.a d.ops.n d.ops.k)) (first | with_reducible exact ⟨p0, p1, p2⟩ | with_reducible exact ⟨x0, x1, x2⟩ | with_reducible exact H9.out.three | go_keep | (simp only [*, and_self])) (first
      | (go_at_call 40; refine (CT.out _ (by with_reducible exact H1.out)).mono ?_; rintro e w7 ⟨t, rfl, ht, d7⟩; have S7 := hid d7; obtain ⟨p0, p1, p2⟩ := S7.out.hd.three; obtain ⟨r0, r1, r2⟩ := S7.out.r1.three; have rf := S7.out.r1.warm; have H9 := hid (S7.out.hd.other3 (Q := w.heap.size) k1 (.slice d.live.a d.live.n d.live.k) (.slice d.safe.a d.safe.n d.safe.k) (.slice d.ops.a d.ops.n d.ops.k)); clear d7))
    all_goals (
      clear x0 x1 x2 H1 BX CT p0 p1 p2
      have lz : w.heap.size < w1.heap.size := by have := S7.out.l0; have := S7.out.l1; have := S7.out.l2; omega
      go_wp2
      exact bodyPost_ret (rp_results _ _ w.heap.size _ _ _ _ _ Try.results17 (S7.out.r1.put3' _ _ _) rfl rfl rfl) rfl ⟨d, s, t, rfl, S7.out.dat.set3 S7.out.dnew lz _ _ _, hs, hs8, by omega, set3_low S7.out.be (Nat.le_refl _) _ _ _⟩)
  | true =>
    have C5 := hid (below_any _ rb a n cap 4 _ (by omega) S5.out.rd)
    go_wp2_with fail
    refine C5.out.mono ?_
    rintro e w5 ⟨z, rfl, _, hz4, R5, g5⟩
    have hz : z < 4 := hz4 (by omega)
    have S6 := hid (S5.out.grown g5 R5)
    clear C5 S5 R5 g5 hz4
    have wz : IntKind.i64.wrap (95 + (z : Int)) = ((95 + z : Nat) : Int) := by rw [IntKind.wrap_i64]; omega
    obtain ⟨m, hm⟩ : ∃ m, m = 95 + z := ⟨_, rfl⟩
    rw [← hm] at wz
    have m1 : m ≤ 1048576 := by omega
    have HM := hid hm
    clear hm
    go_wp2_with (at_make; refine wpList_make_bytes _ rfl _ _ rfl m rfl rfl m1 ?_; intro u w6 hs6 hl6 hb6 hc6; have HU := hid hs6; have SF := hid (S6.out.below hb6); clear hs6 hb6 hl6)
    have hu : u.size ≤ 100 := by have := HU.out; have := HM.out; omega
    clear S6 hc6
    have CT : Hid (∀ W, Below w6.heap.size w6 W → Calls Try.prog 40 #[.pointer (some ⟨rb, 0, none⟩)] W fun e w' => ∃ t : ByteArray, e = .returned (.string t) ∧ t.size ≤ 6 ∧ RpSt w w0 rb a n cap w1.heap.size w2.heap.size w' d) := hid (fun W hW => (rdText_any _ rb a n cap W (SF.out.rd.below hW)).mono fun _ _ ⟨t, e1, h1, h2, h3⟩ => ⟨t, e1, h1, (SF.out.below hW).grown h3 h2⟩)
    have BX : Hid (∀ W, Below w6.heap.size w6 W → W.cell? ⟨w2.heap.size, 0, none⟩ = some (.slice d.live.a d.live.n d.live.k) ∧ W.cell? ⟨w2.heap.size, 1, none⟩ = some (.slice d.safe.a d.safe.n d.safe.k) ∧ W.cell? ⟨w2.heap.size, 2, none⟩ = some (.slice d.ops.a d.ops.n d.ops.k)) := hid (fun W hW => (SF.out.hd.below hW).three)
    have H1 := hid (below_drew (Below.refl w6.heap.size w6))
    obtain ⟨x0, x1, x2⟩ := BX.out _ H1.out
    go_wp2_with fail
    have k1 : ¬ w.heap.size = w2.heap.size := by have := SF.out.l0; have := SF.out.l1; have := SF.out.l2; have := SF.out.l3; omega
    go_region_held3 (fun w' => w'.cell? ⟨w2.heap.size, 0, none⟩ = some (.slice d.live.a d.live.n d.live.k) ∧ w'.cell? ⟨w2.heap.size, 1, none⟩ = some (.slice d.safe.a d.safe.n d.safe.k) ∧ w'.cell? ⟨w2.heap.size, 2, none⟩ = some (.slice d.ops.a d.ops.n d.ops.k)) (first | with_reducible exact ⟨p0, p1, p2⟩ | with_reducible exact ⟨x0, x1, x2⟩ | with_reducible exact H9.out.three | go_keep | (simp only [*, and_self])) (first
      | (go_at_call 40; refine (CT.out _ (by with_reducible exact H1.out)).mono ?_; rintro e w7 ⟨t, rfl, ht, d7⟩; have S7 := hid d7; obtain ⟨p0, p1, p2⟩ := S7.out.hd.three; obtain ⟨r0, r1, r2⟩ := S7.out.r1.three; have rf := S7.out.r1.warm; have H9 := hid (S7.out.hd.other3 (Q := w.heap.size) k1 (.slice d.live.a d.live.n d.live.k) (.slice d.safe.a d.safe.n d.safe.k) (.slice d.ops.a d.ops.n d.ops.k)); clear d7))
    all_goals (
      clear x0 x1 x2 H1 BX CT p0 p1 p2
      have lz : w.heap.size < w1.heap.size := by have := S7.out.l0; have := S7.out.l1; have := S7.out.l2; omega
      go_wp2
      exact bodyPost_ret (rp_results _ _ w.heap.size _ _ _ _ _ Try.results17 (S7.out.r1.put3' _ _ _) rfl rfl rfl) rfl ⟨d, u, t, rfl, S7.out.dat.set3 S7.out.dnew lz _ _ _, hs, hu, by omega, set3_low S7.out.be (Nat.le_refl _) _ _ _⟩)

end Go.Proofs.Ytcchpeebhkiacaa
