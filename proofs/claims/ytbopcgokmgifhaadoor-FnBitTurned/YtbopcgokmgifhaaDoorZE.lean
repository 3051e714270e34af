/- Sealed of both sides. -/
import Derived.Test.YtbopcgokmgifhaaDoorZB
import Derived.Test.YtbopcgokmgifhaaDoorZD
import Derived.Test.YtbopcgokmgifhaaDoorCH
namespace Go.Proofs.YtbopcgokmgifhaaDoor
open Go Go.RowKit Go.Deep Go.Maps

theorem Tab4.below {w w' : World} (h : Tab4 w) (hb : Below w.heap.size w w') : Tab4 w' := fun j hj => by
  have c := h j hj
  have h0 : 0 < w.heap.size := by
    by_cases e : 0 < w.heap.size
    · exact e
    · have c0 := c
      rw [World.cell?, Array.getElem?_eq_none (by simp only; omega)] at c0
      cases c0
  exact (hb.cell (p := ⟨0, j, none⟩) h0).trans c
theorem strm_take_len (s : ByteArray) (b n : Int) (h : strmOk s b n) : ((strm s (b * 1024) ((n.toNat + 7) / 8)).take n.toNat).length = n.toNat := by
  rw [List.length_take, strm_len]
  have := h.2.2.2.1
  omega
/-- the front: the nonce and what was laid over the stream -/
def front (s : ByteArray) (b : Int) (body : ByteArray) : List UInt8 := bigL b 6 ++ xl body (strmAns s b body.size).1 body.size
theorem front_len (s : ByteArray) (b : Int) (body : ByteArray) : (front s b body).length = 6 + body.size := by rw [front, List.length_append, bigL_len, xl_len]
def sealAns (s : ByteArray) (b : Int) (body : ByteArray) : ByteArray × Bool :=
  if strmOk s b body.size ∧ body.size ≤ 200 then (⟨(front s b body ++ lowL (crc ⟨(front s b body).toArray⟩ : Nat)).toArray⟩, true) else (⟨#[]⟩, false)
theorem strmAns_size (s : ByteArray) (b : Int) (n : Nat) (h : strmOk s b n) : (strmAns s b n).1.size = n := by
  rw [strmAns, if_pos h]
  show (List.toArray _).size = n
  rw [List.size_toArray, strm_take_len s b n h]
  omega
theorem strmAns_ok (s : ByteArray) (b : Int) (n : Int) (h : strmOk s b n) : (strmAns s b n).2 = true := by rw [strmAns, if_pos h]
theorem strmAns_no (s : ByteArray) (b : Int) (n : Int) (h : ¬ strmOk s b n) : strmAns s b n = (⟨#[]⟩, false) := by rw [strmAns, if_neg h]

set_option maxRecDepth 100000 in
set_option maxHeartbeats 1000000 in
theorem specSealed_any (s : ByteArray) (b : Int) (body : ByteArray) (w : World) :
    Calls Tryd.prog 8 #[.string s, .int .i64 b, .string body] w fun e w' => e = .returned (.tuple #[.string (sealAns s b body).1, .bool (sealAns s b body).2]) ∧ Below w.heap.size w w' := by
  have P1 := hid (fun w => specStream_any s b (body.size : Int) w)
  by_cases hok : strmOk s b body.size
  · by_cases h200 : body.size ≤ 200
    · have E : Hid (sealAns s b body = (⟨(front s b body ++ lowL (crc ⟨(front s b body).toArray⟩ : Nat)).toArray⟩, true)) := by show _ = _; rw [sealAns, if_pos ⟨hok, h200⟩]
      have hz := strmAns_size s b body.size hok
      have P2 := hid (fun w => l9Xor_any body (strmAns s b body.size).1 w (by omega) (by omega))
      have HF : Hid (bigL b 6 ++ xl body (strmAns s b body.size).1 body.size = front s b body) := rfl
      have HL1 : Hid ((bigL b 6).length = 6) := bigL_len _ _
      have HL2 : Hid ((xl body (strmAns s b body.size).1 body.size).length = body.size) := xl_len _ _ _
      have HL3 : Hid ((front s b body).length = 6 + body.size) := front_len _ _ _
      have H2 : (strmAns s b body.size).2 = true := strmAns_ok s b body.size hok
      rw [H2] at P1
      generalize (strmAns s b body.size).1 = pad at *
      generalize xl body pad body.size = X at *
      have P3 := hid (fun w => l9Sum_any ⟨(front s b body).toArray⟩ w (by rw [size_ofR, HL3.out]; omega))
      generalize front s b body = F at *
      generalize crc ⟨F.toArray⟩ = C at *
      have h2' : ¬ (200 : Int) < (body.size : Int) := by omega
      have r1 : ¬ 9223372036854775807 < (bigL b 6).length + X.length := by have := HL1.out; have := HL2.out; omega
      have r2 : ¬ 9223372036854775807 < F.length + (lowL (C : Nat)).length := by have := HL3.out; have : (lowL (C : Nat)).length = 4 := rfl; omega
      have e1 : (⟨(bigL b 6).toArray⟩ : ByteArray) ++ ⟨X.toArray⟩ = ⟨F.toArray⟩ := by rw [bytes_app, HF.out]
      clear hz H2
      go_enter Tryd.func8, Tryd.ntmps8
      go_wp2_with (first
        | (go_at_call 21; refine (P1.out _).mono ?_; rintro e w1 ⟨rfl, h1⟩)
        | (go_at_call 22; refine (l7Big_any b 6 _ (by decide) (by decide)).mono ?_; rintro e w2 ⟨rfl, h2⟩)
        | (go_at_call 23; refine (P2.out _).mono ?_; rintro e w3 ⟨rfl, h3⟩)
        | (go_at_call 24; refine (P3.out _).mono ?_; rintro e w4 ⟨rfl, h4⟩))
      go_ret2
      refine ⟨ret_strm ?_ ?_, h1.trans ((h2.mono h1.size).trans ((h3.mono (Nat.le_trans h1.size h2.size)).trans (h4.mono (Nat.le_trans h1.size (Nat.le_trans h2.size h3.size)))))⟩
      · rw [bytes_app, E.out]
      · rw [E.out]
    · have E : Hid (sealAns s b body = (⟨#[]⟩, false)) := by show _ = _; rw [sealAns, if_neg (fun h => h200 h.2)]
      have H2 : (strmAns s b body.size).2 = true := strmAns_ok s b body.size hok
      rw [H2] at P1
      generalize (strmAns s b body.size).1 = pad at *
      have h2' : (200 : Int) < (body.size : Int) := by omega
      go_enter Tryd.func8, Tryd.ntmps8
      go_wp2_with (go_at_call 21; refine (P1.out _).mono ?_; rintro e w1 ⟨rfl, h1⟩)
      go_ret2
      exact ⟨by rw [E.out]; rfl, h1⟩
  · have E : Hid (sealAns s b body = (⟨#[]⟩, false)) := by show _ = _; rw [sealAns, if_neg (fun h => hok h.1)]
    rw [strmAns_no s b body.size hok] at P1
    go_enter Tryd.func8, Tryd.ntmps8
    go_wp2_with (go_at_call 21; refine (P1.out _).mono ?_; rintro e w1 ⟨rfl, h1⟩)
    go_ret2
    exact ⟨by rw [E.out]; rfl, h1⟩

set_option maxRecDepth 100000 in
set_option maxHeartbeats 1000000 in
theorem implSealed_any (s : ByteArray) (b : Int) (body : ByteArray) (w : World) (hT : Tab4 w) :
    Calls Tryd.prog 7 #[.string s, .int .i64 b, .string body] w fun e w' => e = .returned (.tuple #[.string (sealAns s b body).1, .bool (sealAns s b body).2]) ∧ Below w.heap.size w w' := by
  have P1 := hid (fun w => implStream_any s b (body.size : Int) w)
  have HT := hid hT
  by_cases hok : strmOk s b body.size
  · by_cases h200 : body.size ≤ 200
    · have E : Hid (sealAns s b body = (⟨(front s b body ++ lowL (crc ⟨(front s b body).toArray⟩ : Nat)).toArray⟩, true)) := by show _ = _; rw [sealAns, if_pos ⟨hok, h200⟩]
      have hz := strmAns_size s b body.size hok
      have P2 := hid (fun w => xored_any body (strmAns s b body.size).1 w (by omega) (by omega))
      have HF : Hid (bigL b 6 ++ xl body (strmAns s b body.size).1 body.size = front s b body) := rfl
      have HL1 : Hid ((bigL b 6).length = 6) := bigL_len _ _
      have HL2 : Hid ((xl body (strmAns s b body.size).1 body.size).length = body.size) := xl_len _ _ _
      have HL3 : Hid ((front s b body).length = 6 + body.size) := front_len _ _ _
      have H2 : (strmAns s b body.size).2 = true := strmAns_ok s b body.size hok
      rw [H2] at P1
      generalize (strmAns s b body.size).1 = pad at *
      generalize xl body pad body.size = X at *
      have P3 := hid (fun w => crcText_any ⟨(front s b body).toArray⟩ w (by rw [size_ofR, HL3.out]; omega))
      generalize front s b body = F at *
      generalize crc ⟨F.toArray⟩ = C at *
      have h2' : ¬ (200 : Int) < (body.size : Int) := by omega
      have r1 : ¬ 9223372036854775807 < (bigL b 6).length + X.length := by have := HL1.out; have := HL2.out; omega
      have r2 : ¬ 9223372036854775807 < F.length + (lowL (C : Nat)).length := by have := HL3.out; have : (lowL (C : Nat)).length = 4 := rfl; omega
      have e1 : (⟨(bigL b 6).toArray⟩ : ByteArray) ++ ⟨X.toArray⟩ = ⟨F.toArray⟩ := by rw [bytes_app, HF.out]
      clear hz H2
      go_enter Tryd.func7, Tryd.ntmps7
      go_wp2_with (first
        | (go_at_call 10; refine (P1.out _).mono ?_; rintro e w1 ⟨rfl, h1⟩)
        | (go_at_call 18; refine (highFirst_any b 6 _ (by decide)).mono ?_; rintro e w2 ⟨rfl, h2⟩)
        | (go_at_call 19; refine (P2.out _).mono ?_; rintro e w3 ⟨rfl, h3⟩)
        | (go_at_call 20; refine (P3.out _ (HT.out.below (h1.trans ((h2.mono h1.size).trans (h3.mono (Nat.le_trans h1.size h2.size)))))).mono ?_; rintro e w4 ⟨rfl, h4⟩))
      go_ret2
      refine ⟨ret_strm ?_ ?_, h1.trans ((h2.mono h1.size).trans ((h3.mono (Nat.le_trans h1.size h2.size)).trans (h4.mono (Nat.le_trans h1.size (Nat.le_trans h2.size h3.size)))))⟩
      · rw [bytes_app, E.out]
      · rw [E.out]
    · have E : Hid (sealAns s b body = (⟨#[]⟩, false)) := by show _ = _; rw [sealAns, if_neg (fun h => h200 h.2)]
      have H2 : (strmAns s b body.size).2 = true := strmAns_ok s b body.size hok
      rw [H2] at P1
      generalize (strmAns s b body.size).1 = pad at *
      have h2' : (200 : Int) < (body.size : Int) := by omega
      go_enter Tryd.func7, Tryd.ntmps7
      go_wp2_with (go_at_call 10; refine (P1.out _).mono ?_; rintro e w1 ⟨rfl, h1⟩)
      go_ret2
      exact ⟨by rw [E.out]; rfl, h1⟩
  · have E : Hid (sealAns s b body = (⟨#[]⟩, false)) := by show _ = _; rw [sealAns, if_neg (fun h => hok h.1)]
    rw [strmAns_no s b body.size hok] at P1
    go_enter Tryd.func7, Tryd.ntmps7
    go_wp2_with (go_at_call 10; refine (P1.out _).mono ?_; rintro e w1 ⟨rfl, h1⟩)
    go_ret2
    exact ⟨by rw [E.out]; rfl, h1⟩
end Go.Proofs.YtbopcgokmgifhaaDoor
