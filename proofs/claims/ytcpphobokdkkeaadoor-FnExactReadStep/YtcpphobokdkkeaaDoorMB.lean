/- LabelText of the program. -/
import Derived.Test.YtcpphobokdkkeaaDoorMA
namespace Go.Proofs.YtcpphobokdkkeaaDoor
open Go.RowKit Go.Deep Go.Maps

theorem isBuilder_below {T e B b : Nat} {bs : List Value} {w w' : World} (h : Lib.IsBuilder T e B b bs w) (hb : Below w.heap.size w w') : Lib.IsBuilder T e B b bs w' := by
  have aux : ∀ p, Lib.BuilderAt T e B b p bs w → Lib.BuilderAt T e B b p bs w' := by
    rintro p ⟨h1, v, hbk, ho, hne⟩
    refine ⟨h1, v, (hb.block b (Array.getElem?_eq_some_iff.1 hbk).1).trans hbk, ⟨ho.1, ?_⟩, hne⟩
    rcases ho.2 with h2 | ⟨g, cap, cur, hv, hbg, hg, hr⟩
    · exact .inl h2
    · exact .inr ⟨g, cap, cur, hv, hbg, (hb.block g (Array.getElem?_eq_some_iff.1 hg).1).trans hg, hr⟩
  rcases h with h | h
  · exact .inl (aux _ h)
  · exact .inr (aux _ h)
theorem isBuilder_lt {T e B b : Nat} {bs : List Value} {w : World} (h : Lib.IsBuilder T e B b bs w) : b < w.heap.size := by
  rcases h with h | h <;> exact h.lt
theorem str_byte (l : List UInt8) : Lib.strCells ⟨l.toArray⟩ = Lib.byteCells l := rfl
theorem byte_app (a b : List UInt8) : Lib.byteCells a ++ Lib.byteCells b = Lib.byteCells (a ++ b) := by simp [Lib.byteCells]
theorem size_of (l : List UInt8) : (⟨l.toArray⟩ : ByteArray).size = l.length := by simp [ByteArray.size]

set_option maxRecDepth 100000 in
set_option maxHeartbeats 4000000 in
theorem implText_any (base : Int) (a : Option Addr) (n cap : Nat) (f g : Nat → Int) (w : World) (hn : n ≤ maxLen) (hc : CatsAt w a n f g) (ht : Tab w) :
    Calls Tryd.prog 21 #[.agg #[.int .i64 base, .slice a n cap]] w fun e w' => e = .returned (.string ⟨(ltext base n f g).toArray⟩) ∧ Below w.heap.size w w' := by
  have L0 := (Below.refl _ w).alloc (Nat.le_refl _) (.cells #[.int .i64 base, .slice a n cap] 31)
  have A0 := Blk.new w (.cells #[.int .i64 base, .slice a n cap] 31)
  obtain ⟨x1, x2⟩ := A0.two
  go_enter Tryd.func21, Tryd.ntmps21
  go_wp2_with fail
  refine (implOk_any _ _ _ _ f g _ hn (hc.below L0)).mono ?_
  rintro e w1 ⟨rfl, hb1⟩
  have L1 : Below w.heap.size w w1 := L0.trans (hb1.mono L0.size)
  have A1 := A0.below hb1
  clear x1 x2 A0 L0 hb1
  cases h : labOk base n f g with
  | false =>
    go_wp2
    go_ret
    exact ⟨by simp [ltext, h], L1⟩
  | true =>
    obtain ⟨h1, h2, h3⟩ := labOk_out h
    have h1' := inB_iff.1 h1
    have hf : ∀ i, i < n → 0 ≤ f i ∧ f i ≤ 9999 := fun i hi => by have := catOk_iff.1 (h3 i hi); omega
    have hg : ∀ i, i < n → 0 ≤ g i ∧ g i ≤ 9999 := fun i hi => by have := catOk_iff.1 (h3 i hi); omega
    have HE : Hid (ltext base n f g = txt base (catsTo f g n)) := (by simp [ltext, h] : ltext base n f g = txt base (catsTo f g n))
    clear h3 h1 h
    have I2 := Lib.fresh_isBuilder 78 5 w1
    have K2 := (Below.refl _ w1).alloc (Nat.le_refl _) (.cells #[.pointer none, .slice none 0 0] 78)
    have A2 := A1.below K2
    have L2 : Below w.heap.size w (w1.alloc (.cells #[.pointer none, .slice none 0 0] 78)) := L1.trans (K2.mono L1.size)
    have sA : w.heap.size < w1.heap.size := A1.lt
    clear A1 K2 L1
    obtain ⟨x1, x2⟩ := A2.two
    go_wp2_with fail
    generalize w1.alloc (.cells #[.pointer none, .slice none 0 0] 78) = V at *
    refine (decimal_any base V (by omega) (by omega) (ht.below L2)).mono ?_
    rintro e w3 ⟨rfl, hb3⟩
    have A3 := A2.below hb3
    have I3 := isBuilder_below I2 hb3
    have L3 : Below w.heap.size w w3 := L2.trans (hb3.mono L2.size)
    have ld := decL_len base.toNat
    clear x1 x2 A2 I2 L2 hb3
    go_wp2_with fail
    refine (writeString_any w1.heap.size w1.heap.size [] _ w3 I3 (by rw [size_of]; simp; omega) (Nat.le_of_lt (isBuilder_lt I3))).mono ?_
    rintro e w4 ⟨rfl, I4, hb4, kp4⟩
    have A4 : Blk w4 w.heap.size (.cells #[.int .i64 base, .slice a n cap] 31) := kp4 _ _ _ (by decide) (by omega) A3
    have L4 : Below w.heap.size w w4 := L3.trans (hb4.mono (by omega))
    have J4 : Lib.IsBuilder 78 5 w1.heap.size w1.heap.size (Lib.byteCells (txt base (catsTo f g 0))) w4 := by
      have e0 : txt base (catsTo f g 0) = decL base.toNat := by simp [txt, catsTo]
      rw [e0]
      exact I4
    clear A3 I3 L3 I4 hb4 kp4
    obtain ⟨x1, x2⟩ := A4.two
    go_wp2_with fail
    go_loopw [16] (fun i wr => ∃ k : Nat, k ≤ n ∧ i = .int .i64 k ∧ Lib.IsBuilder 78 5 w1.heap.size w1.heap.size (Lib.byteCells (txt base (catsTo f g k))) wr ∧ Below w.heap.size w wr ∧ w1.heap.size < wr.heap.size) (fun i _ => n - (intOf i).toNat)
    case atStart => exact ⟨0, Nat.zero_le _, rfl, J4, L4, isBuilder_lt J4⟩
    case round =>
      obtain ⟨k, hk, rfl, I, Lr, sr⟩ := hrel
      clear J4 L4 A4 x1 x2
      by_cases hlt : k < n
      · have hki : (k : Int) < (n : Int) := by omega
        obtain ⟨b, off, rfl, hbl, hcc⟩ := (hc.below Lr) (by omega)
        obtain ⟨c1, c2⟩ := hcc k hlt
        have hf0 := hf k hlt
        have hg0 := hg k hlt
        have hD1 := decL_len (f k).toNat
        have hD2 := decL_len (g k).toNat
        have lk := txt_len base f g k (by omega) (fun i hi => by have := hf i (by omega); have := hg i (by omega); omega)
        have HT : Hid (txt base (catsTo f g (k + 1)) = txt base (catsTo f g k) ++ 44 :: (decL (f k).toNat ++ 58 :: decL (g k).toNat)) := by
          show _ = _
          rw [catsTo_succ, txt_snoc]; rfl
        have tr : Tab wr := ht.below Lr
        have P1 : Hid (∀ v : World, Below wr.heap.size wr v → Calls Tryd.prog 43 #[.int .i64 (f k)] v fun e w' => e = .returned (.string ⟨(decL (f k).toNat).toArray⟩) ∧ Below v.heap.size v w') := fun v hv => decimal_any (f k) v hf0.1 (by omega) (tr.below hv)
        have P2 : Hid (∀ v : World, Below wr.heap.size wr v → Calls Tryd.prog 43 #[.int .i64 (g k)] v fun e w' => e = .returned (.string ⟨(decL (g k).toNat).toArray⟩) ∧ Below v.heap.size v w') := fun v hv => decimal_any (g k) v hg0.1 (by omega) (tr.below hv)
        have KC := (Below.refl _ wr).alloc (Nat.le_refl _) (.cells #[.int .i64 (f k), .int .i64 (g k)] 68)
        have Cd : Blk (wr.alloc (.cells #[.int .i64 (f k), .int .i64 (g k)] 68)).drew wr.heap.size (.cells #[.int .i64 (f k), .int .i64 (g k)] 68) := Blk.new wr _
        have Id : Lib.IsBuilder 78 5 w1.heap.size w1.heap.size (Lib.byteCells (txt base (catsTo f g k))) (wr.alloc (.cells #[.int .i64 (f k), .int .i64 (g k)] 68)).drew := isBuilder_below I KC.drew
        have Kd : Below wr.heap.size wr (wr.alloc (.cells #[.int .i64 (f k), .int .i64 (g k)] 68)).drew := KC.drew
        clear hcc hc hf hg HE tr KC
        generalize hTe : txt base (catsTo f g k) = T at *
        generalize hE1 : decL (f k).toNat = D1 at *
        generalize hE2 : decL (g k).toNat = D2 at *
        generalize f k = fk at *
        generalize g k = gk at *
        have r1 : ¬ 9223372036854775807 < 1 + D1.length := by omega
        have r2 : ¬ 9223372036854775807 < 1 + D1.length + 1 := by omega
        have r3 : ¬ 9223372036854775807 < 1 + D1.length + 1 + D2.length := by omega
        have r4 : (Lib.byteCells T).length + (1 + D1.length + 1 + D2.length) ≤ 140737488355328 := by rw [Lib.byteCells_length]; omega
        clear hTe hE1 hE2 hD1 hD2 lk hf0 hg0
        have es : ((((⟨#[44]⟩ : ByteArray) ++ ⟨D1.toArray⟩) ++ ⟨#[58]⟩) ++ ⟨D2.toArray⟩) = ⟨(44 :: (D1 ++ 58 :: D2)).toArray⟩ := by
          have ea : (⟨#[44]⟩ : ByteArray) = ⟨[44].toArray⟩ := rfl
          have eb : (⟨#[58]⟩ : ByteArray) = ⟨[58].toArray⟩ := rfl
          rw [ea, eb, bytes_app, bytes_app, bytes_app]
          simp
        have HL : Hid ((Lib.byteCells T).length + ((((⟨#[44]⟩ : ByteArray) ++ ⟨D1.toArray⟩) ++ ⟨#[58]⟩) ++ ⟨D2.toArray⟩).size ≤ 140737488355328) := by
          show _ ≤ _
          rw [es, size_of]
          simp only [List.length_cons, List.length_append]
          omega
        have HES : Hid (((((⟨#[44]⟩ : ByteArray) ++ ⟨D1.toArray⟩) ++ ⟨#[58]⟩) ++ ⟨D2.toArray⟩) = ⟨(44 :: (D1 ++ 58 :: D2)).toArray⟩) := es
        clear es r4
        go_wp2_with fail
        go_region_held3 (fun w' => w'.cell? ⟨wr.heap.size, 0, none⟩ = some (.int .i64 fk) ∧ w'.cell? ⟨wr.heap.size, 1, none⟩ = some (.int .i64 gk)) (go_keep)
          (first
            | (go_at_call 44; have hq := hb8; refine (writeString_any w1.heap.size w1.heap.size _ _ _ I8 HL.out z8).mono ?_; rintro e w9 ⟨rfl, I9, hb9, kp9⟩; obtain ⟨t1, t2⟩ := Blk.two (kp9 _ _ _ (by decide) (by omega) C8))
            | (go_at_call 43; have hq := hb7; refine (P2.out _ K7).mono ?_; rintro e w8 ⟨rfl, hb8⟩; have C8 := C7.below hb8; have I8 := isBuilder_below I7 hb8; have z8 := Nat.le_of_lt (isBuilder_lt I8); obtain ⟨v1, v2⟩ := C8.two)
            | (go_at_call 43; refine (P1.out _ Kd).mono ?_; rintro e w7 ⟨rfl, hb7⟩; have C7 := Cd.below hb7; have K7 : Below wr.heap.size wr w7 := Kd.trans (hb7.mono Kd.size); have I7 := isBuilder_below Id hb7; obtain ⟨y1, y2⟩ := C7.two))
        have L9 : Below w.heap.size w w9 := (Lr.trans ((K7.trans (hb8.mono K7.size)).mono Lr.size)).trans (hb9.mono (by omega))
        have I9' : Lib.IsBuilder 78 5 w1.heap.size w1.heap.size (Lib.byteCells (txt base (catsTo f g (k + 1)))) w9 := by
          rw [HT.out, ← byte_app]
          rw [HES.out] at I9
          exact I9
        go_wp2
        go_roundw
        case rel => exact ⟨k + 1, by omega, by go_num, I9', L9, isBuilder_lt I9'⟩
        case measure => simp [intOf]; omega
      · have hki : ¬ (k : Int) < (n : Int) := by omega
        obtain rfl : k = n := by omega
        go_wp2_with fail
        refine (Tryd.Builder_String_any w1.heap.size w1.heap.size _ _ I (by omega)).mono ?_
        rintro e w6 ⟨rfl, hb6⟩
        have L6 : Below w.heap.size w w6 := Lr.trans (hb6.mono (by omega))
        clear I hb6
        go_wp2
        go_ret
        exact ⟨by rw [HE.out]; rfl, L6⟩
end Go.Proofs.YtcpphobokdkkeaaDoor
