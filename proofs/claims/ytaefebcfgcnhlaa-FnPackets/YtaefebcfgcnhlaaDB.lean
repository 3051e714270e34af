/- What packet, DrawPacketText and DrawReadPacket draw. -/
import Derived.Test.YtaefebcfgcnhlaaDA
import Derived.Test.YtaefebcfgcnhlaaNRB
namespace Go.Proofs.Ytaefebcfgcnhlaa
open Go Go.RowKit Go.Deep Go.Maps

theorem BytesAt.below {w W : World} {a : Option Addr} {n : Nat} (h : BytesAt w a n) (hb : Below w.heap.size w W) : BytesAt W a n := fun hn => by
  obtain ⟨b, off, e, hlt, hc⟩ := h hn
  exact ⟨b, off, e, Nat.lt_of_lt_of_le hlt hb.size, fun i hi => by
    obtain ⟨v, h1, h2⟩ := hc i hi
    exact ⟨v, (hb.cell (p := ⟨b, off + i, none⟩) hlt).trans h1, h2⟩⟩
theorem then_ {w a b : World} (h : Below w.heap.size w a) (k : Below a.heap.size a b) : Below w.heap.size w b := h.trans (k.mono h.size)
def pk (f t k : Int) (B : ByteArray) : Array Value := #[.int .i64 f, .int .i64 t, .int .i64 k, .string B]
theorem Blk.frozen4 {W : World} {P t : Nat} {a b c d : Value} (h : Blk W P (.cells #[a, b, c, d] t)) (i : Nat) : W.frozen? ⟨P, i, none⟩ = false := by
  unfold Blk at h
  simp [World.frozen?, h]

set_option maxRecDepth 100000 in
set_option maxHeartbeats 2000000 in
theorem rdPacket_any (w0 : World) (rb : Nat) (a : Option Addr) (n cap : Nat) (w : World) (h : Rd w0 w rb a n cap) :
    Calls Try.prog 22 #[.pointer (some ⟨rb, 0, none⟩)] w fun e w' => ∃ (f t k : Int) (B : ByteArray), e = .returned (.agg (pk f t k B)) ∧ B.size ≤ 10 ∧ Rd w0 w' rb a n cap ∧ w.grownBy w' (some rb) := by
  have hrb : rb < w.heap.size := h.lt
  have hle := h.le
  have K0 := (Below.refl _ w).alloc (Nat.le_refl _) (.cells #[.int .i64 0, .int .i64 0, .int .i64 0, .string ⟨#[]⟩] 25)
  have A0 := Blk.new w (.cells #[.int .i64 0, .int .i64 0, .int .i64 0, .string ⟨#[]⟩] 25)
  have R0 := h.below K0
  have g0 := World.grownBy_alloc w (.cells #[.int .i64 0, .int .i64 0, .int .i64 0, .string ⟨#[]⟩] 25) (some rb)
  clear K0 h
  go_enter Try.func22, Try.ntmps22
  go_wp2_with fail
  refine (rdAddr_any w0 rb a n cap _ R0).mono ?_
  rintro e w1 ⟨f, rfl, R1, g1⟩
  have A1 := A0.grown g1 (by simp; omega)
  have G1 := grown_pair g0 g1
  clear R0 A0 g0 g1
  go_wp2_with fail
  refine (rdAddr_any w0 rb a n cap _ R1).mono ?_
  rintro e w2 ⟨t, rfl, R2, g2⟩
  have A2 := A1.grown g2 (by simp; omega)
  have G2 := grown_pair G1 g2
  clear R1 A1 G1 g2
  go_wp2_with fail
  refine (below_any w0 rb a n cap 20 _ (by omega) R2).mono ?_
  rintro e w3 ⟨k, rfl, _, _, R3, g3⟩
  have A3 := A2.grown g3 (by simp; omega)
  have G3 := grown_pair G2 g3
  clear R2 A2 G2 g3
  go_wp2_with fail
  refine (rdText_any w0 rb a n cap _ R3).mono ?_
  rintro e w4 ⟨B1, rfl, hB1, R4, g4⟩
  have A4 := A3.grown g4 (by simp; omega)
  have G4 := grown_pair G3 g4
  clear R3 A3 G3 g4
  go_wp2_with fail
  refine (rdBytes4_any w0 rb a n cap _ R4).mono ?_
  rintro e w5 ⟨B2, rfl, hB2, R5, g5⟩
  have A5 := A4.grown g5 (by simp; omega)
  have G5 := grown_pair G4 g5
  clear R4 A4 G4 g5
  have r1 : ¬ 9223372036854775807 < B1.size + B2.size := by omega
  obtain ⟨B, hB, hBz⟩ : ∃ B, B1 ++ B2 = B ∧ B.size ≤ 10 := ⟨_, rfl, by rw [ByteArray.size_append]; omega⟩
  have HR5 := hid R5
  have HA5 := hid A5
  have rl := R5.lt
  clear R5 A5
  go_wp2_with fail
  refine (once_any w0 rb a n cap 24 _ (by omega) (HR5.out.below ((Below.refl _ _).alloc (Nat.le_refl _) _))).mono ?_
  rintro e w6 ⟨o, rfl, R6, g6⟩
  have A6 := (HA5.out.alloc (.cells #[.int .i64 f, .int .i64 t, .int .i64 k, .string B] 25)).grown g6 (by simp; omega)
  have P6 := (Blk.new w5 (.cells #[.int .i64 f, .int .i64 t, .int .i64 k, .string B] 25)).grown g6 (by simp; omega)
  have G6 := grown_pair (grown_trans G5 (World.grownBy_alloc w5 (.cells #[.int .i64 f, .int .i64 t, .int .i64 k, .string B] 25) none) (fun j e => by cases e)) g6
  have s5 := G5.size
  have ne1 : ¬ w.heap.size = w5.heap.size := by have := HA5.out.lt; omega
  have ne2 : ¬ w5.heap.size = w.heap.size := by have := HA5.out.lt; omega
  clear HR5 HA5 G5 g6
  cases o with
  | false =>
    obtain ⟨p0, p1, p2, p3⟩ := P6.four
    obtain ⟨q0, q1, q2, q3⟩ := A6.four
    have z0 := A6.frozen4 0
    have z1 := A6.frozen4 1
    have z2 := A6.frozen4 2
    have z3 := A6.frozen4 3
    have HR6 := hid R6
    have HA6 := hid A6
    clear R6 A6 P6
    go_wp2_with fail
    refine bodyPost_ret (v := .agg (pk f t k B)) (by simp [results, Try.results22, go_sem, pk, q0, q1, q2, q3]) rfl ⟨f, t, k, B, rfl, hBz, ?_, ?_⟩
    · exact HR6.out.other (grown_set (grown_set (grown_set (grown_set (grown_refl w6 w.heap.size) _ _) _ _) _ _) _ _) (by omega) (by omega)
    · exact grown_trans G6 (grown_set (grown_set (grown_set (grown_set (grown_refl w6 w.heap.size) _ _) _ _) _ _) _ _) (fun j e => by cases e; exact Nat.le_refl _)
  | true =>
    have s6 := G6.size
    have rl6 := R6.lt
    go_wp2_with fail
    refine (off_big w0 rb a n cap 0 255 _ (by omega) (by omega) R6).mono ?_
    rintro e w7 ⟨x, rfl, _, R7, g7⟩
    have A7 := A6.grown g7 (by simp; omega)
    have P7 := P6.grown g7 (by simp; omega)
    have G7 := grown_pair G6 g7
    clear R6 A6 P6 G6 g7
    obtain ⟨p0, p1, p2, p3⟩ := P7.four
    obtain ⟨q0, q1, q2, q3⟩ := A7.four
    have z0 := A7.frozen4 0
    have z1 := A7.frozen4 1
    have z2 := A7.frozen4 2
    have z3 := A7.frozen4 3
    have y2 := P7.frozen4 2
    have HR7 := hid R7
    clear R7 A7 P7
    go_wp2_with fail
    refine bodyPost_ret (v := .agg (pk f t x B)) (by simp [results, Try.results22, go_sem, pk, q0, q1, q2, q3]) rfl ⟨f, t, x, B, rfl, hBz, ?_, ?_⟩
    · exact (HR7.out.other (grown_set (grown_refl w7 w5.heap.size) _ _) (by omega) (by omega)).other (grown_set (grown_set (grown_set (grown_set (grown_refl _ w.heap.size) _ _) _ _) _ _) _ _) (by omega) (by omega)
    · exact grown_trans (grown_trans G7 (grown_set (grown_refl w7 w5.heap.size) _ _) (fun j e => by cases e; exact s5)) (grown_set (grown_set (grown_set (grown_set (grown_refl _ w.heap.size) _ _) _ _) _ _) _ _) (fun j e => by cases e; exact Nat.le_refl _)

set_option maxHeartbeats 1000000 in
theorem drawPacket_any (a : Option Addr) (n cap : Nat) (w : World) (hn : n ≤ 1048576) (hb : BytesAt w a n) :
    Calls Try.prog 7 #[.slice a n cap] w fun e w' => ∃ (f t k : Int) (B : ByteArray), e = .returned (.agg (pk f t k B)) ∧ B.size ≤ 10 ∧ Below w.heap.size w w' := by
  have HB : Hid (BytesAt (w.alloc (.cells #[.int .i64 0, .int .i64 0, .int .i64 0, .string ⟨#[]⟩] 25)) a n) := hb.below ((Below.refl _ _).alloc (Nat.le_refl _) _)
  have K0 := (Below.refl _ w).alloc (Nat.le_refl _) (.cells #[.int .i64 0, .int .i64 0, .int .i64 0, .string ⟨#[]⟩] 25)
  have A0 := Blk.new w (.cells #[.int .i64 0, .int .i64 0, .int .i64 0, .string ⟨#[]⟩] 25)
  clear hb
  go_enter Try.func7, Try.ntmps7
  go_wp2_with fail
  refine (l1Open_any a n cap _ hn HB.out).mono ?_
  rintro e w1 ⟨rb, rfl, R1⟩
  have A1 := A0.below R1.E
  have E1 := K0.trans (R1.E.mono K0.size)
  have le1 := R1.le
  have s1 : (w.alloc (.cells #[.int .i64 0, .int .i64 0, .int .i64 0, .string ⟨#[]⟩] 25)).heap.size = w.heap.size + 1 := World.size_alloc _ _
  go_wp2_with fail
  refine (rdPacket_any _ rb a n cap _ R1).mono ?_
  rintro e w2 ⟨f, t, k, B, rfl, hz, R2, g2⟩
  have A2 := A1.grown g2 (by simp; omega)
  have E2 : Below w.heap.size w w2 := K0.trans (R2.E.mono K0.size)
  obtain ⟨q0, q1, q2, q3⟩ := A2.four
  have z0 := A2.frozen4 0
  have z1 := A2.frozen4 1
  have z2 := A2.frozen4 2
  have z3 := A2.frozen4 3
  have HE := hid E2
  clear A0 A1 A2 R1 R2 E1 E2 g2 K0 s1
  unfold pk
  go_wp2_with fail
  refine bodyPost_ret (v := .agg (pk f t k B)) (by simp [results, Try.results7, go_sem, pk, q0, q1, q2, q3]) rfl ⟨f, t, k, B, rfl, hz, ?_⟩
  exact (((HE.out.setCell (Nat.le_refl _) _).setCell (Nat.le_refl _) _).setCell (Nat.le_refl _) _).setCell (Nat.le_refl _) _

set_option maxHeartbeats 1000000 in
theorem drawRead_any (a : Option Addr) (n cap : Nat) (w : World) (hn : n ≤ 1048576) (hb : BytesAt w a n) :
    Calls Try.prog 12 #[.slice a n cap] w fun e w' => ∃ t : ByteArray, e = .returned (.string t) ∧ t.size ≤ 1000 ∧ Below w.heap.size w w' := by
  have HB := hid hb
  clear hb
  go_enter Try.func12, Try.ntmps12
  go_wp2_with fail
  refine (l1Open_any a n cap _ hn HB.out).mono ?_
  rintro e w1 ⟨rb, rfl, R1⟩
  go_wp2_with fail
  refine (rdPacket_any _ rb a n cap _ R1).mono ?_
  rintro e w2 ⟨f, t, k, B, rfl, hz, R2, g2⟩
  clear R1
  obtain ⟨l, rfl⟩ : ∃ l : List UInt8, B = ⟨l.toArray⟩ := ⟨B.data.toList, by cases B; simp⟩
  rw [size_ofR] at hz
  have PT := hid (specText_any f t k l w2 (by unfold maxLen; omega))
  have hl : (ptext f t k l).length ≤ 214 := ptext_len
  generalize ptext f t k l = X at *
  unfold pk
  go_wp2_with (go_at_call 10; refine PT.out.mono ?_; rintro e w3 ⟨rfl, h3⟩)
  have R3 := R2.below h3
  clear R2
  refine (hurt_any _ rb a n cap ⟨X.toArray⟩ _ (by rw [size_ofR]; omega) R3).mono ?_
  rintro e w4 ⟨u, rfl, hu, E4⟩
  have hx := size_ofR X
  clear R3
  go_wp2
  go_ret
  exact ⟨_, rfl, by omega, E4⟩
end Go.Proofs.Ytaefebcfgcnhlaa
