/- The text of a label, as the model writes it. -/
import Derived.Test.YtcpphobokdkkeaaDoorLE
namespace Go.Proofs.YtcpphobokdkkeaaDoor
open Go.RowKit Go.Deep

theorem l1DecI_any (x : Int) (w : World) (h0 : 0 ≤ x) (h1 : x ≤ 10000000000) :
    Calls Tryd.prog 16 #[.int .i64 x] w fun e w' => e = .returned (.string ⟨(decL x.toNat).toArray⟩) ∧ Below w.heap.size w w' := by
  obtain ⟨n, rfl⟩ := Int.eq_ofNat_of_zero_le h0
  exact l1Dec_any n w (by omega)

/-- the first k categories -/
def catsTo (f g : Nat → Int) (k : Nat) : List (Int × Int) := (List.range k).map fun i => (f i, g i)
theorem catsTo_succ (f g : Nat → Int) (k : Nat) : catsTo f g (k + 1) = catsTo f g k ++ [(f k, g k)] := by simp [catsTo, List.range_succ]
theorem txt_len (base : Int) (f g : Nat → Int) (k : Nat) (hb : base.toNat ≤ 10000000000) (hc : ∀ i, i < k → (f i).toNat ≤ 10000000000 ∧ (g i).toNat ≤ 10000000000) : (txt base (catsTo f g k)).length ≤ 10000000001 + k * 20000000010 := by
  induction k with
  | zero => simp [txt, catsTo]; have := decL_len base.toNat; omega
  | succ k ih =>
    rw [catsTo_succ, txt_snoc, List.length_append]
    have := ih (fun i hi => hc i (by omega))
    have h1 := decL_len (f k).toNat
    have h2 := decL_len (g k).toNat
    have h3 := hc k (by omega)
    simp only [catText, List.length_cons, List.length_append]
    omega

set_option maxRecDepth 100000 in
set_option maxHeartbeats 4000000 in
theorem l1Text_any (base : Int) (a : Option Addr) (n cap : Nat) (f g : Nat → Int) (w : World) (hn : n ≤ 12) (hc : CatsAt w a n f g) (hb : 0 ≤ base ∧ base ≤ 10000000000) (hf : ∀ i, i < n → 0 ≤ f i ∧ f i ≤ 10000000000) (hg : ∀ i, i < n → 0 ≤ g i ∧ g i ≤ 10000000000) :
    Calls Tryd.prog 17 #[.agg #[.int .i64 base, .slice a n cap]] w fun e w' => e = .returned (.string ⟨(txt base (catsTo f g n)).toArray⟩) ∧ Below w.heap.size w w' := by
  have L0 := (Below.refl _ w).alloc (Nat.le_refl _) (.cells #[.int .i64 base, .slice a n cap] 31)
  have A0 := Blk.new w (.cells #[.int .i64 base, .slice a n cap] 31)
  obtain ⟨x1, x2⟩ := A0.two
  go_enter Tryd.func17, Tryd.ntmps17
  go_wp2_with fail
  refine (l1DecI_any base _ hb.1 hb.2).mono ?_
  rintro e w1 ⟨rfl, hb1⟩
  have A1 := A0.below hb1
  have L1 : Below w.heap.size w w1 := L0.trans (hb1.mono L0.size)
  have hc1 := hc.below L1
  clear x1 x2 A0 L0 hb1
  go_wp2_with fail
  go_loopw [3, 4] (fun s i wr => ∃ k : Nat, k ≤ n ∧ i = .int .i64 k ∧ s = .string ⟨(txt base (catsTo f g k)).toArray⟩ ∧ Below w1.heap.size w1 wr) (fun _ i _ => n - (intOf i).toNat)
  case atStart => exact ⟨0, Nat.zero_le _, rfl, by simp [txt, catsTo], Below.refl _ _⟩
  case round =>
    obtain ⟨k, hk, rfl, rfl, hB⟩ := hrel
    have lk := txt_len base f g k (by omega) (fun i hi => by have := hf i (by omega); have := hg i (by omega); omega)
    have Ar := A1.below hB
    obtain ⟨x1, x2⟩ := Ar.two
    by_cases hlt : k < n
    · have hki : (k : Int) < (n : Int) := by omega
      obtain ⟨b, off, rfl, hbl, hcc⟩ := hc1 (by omega)
      obtain ⟨c1, c2⟩ := hcc k hlt
      have g1 : wr.cell? ⟨b, off + k * 2, none⟩ = some (.int .i64 (f k)) := (hB.cell (p := ⟨b, _, none⟩) hbl).trans c1
      have g2 : wr.cell? ⟨b, off + k * 2 + 1, none⟩ = some (.int .i64 (g k)) := (hB.cell (p := ⟨b, _, none⟩) hbl).trans c2
      have hf0 := hf k hlt
      have hg0 := hg k hlt
      have hD1 := decL_len (f k).toNat
      have hD2 := decL_len (g k).toNat
      have P1 : Hid (∀ v : World, Calls Tryd.prog 16 #[.int .i64 (f k)] v fun e w' => e = .returned (.string ⟨(decL (f k).toNat).toArray⟩) ∧ Below v.heap.size v w') := fun v => l1DecI_any (f k) v hf0.1 hf0.2
      have P2 : Hid (∀ v : World, Calls Tryd.prog 16 #[.int .i64 (g k)] v fun e w' => e = .returned (.string ⟨(decL (g k).toNat).toArray⟩) ∧ Below v.heap.size v w') := fun v => l1DecI_any (g k) v hg0.1 hg0.2
      have HT : Hid (txt base (catsTo f g (k + 1)) = txt base (catsTo f g k) ++ 44 :: (decL (f k).toNat ++ 58 :: decL (g k).toNat)) := by
        show _ = _
        rw [catsTo_succ, txt_snoc]; rfl
      have Ad : Blk wr.drew w.heap.size (.cells #[.int .i64 base, .slice (some ⟨b, off, none⟩) n cap] 31) := Ar
      have hbd : b < wr.drew.heap.size := Nat.lt_of_lt_of_le hbl hB.size
      have gd1 : wr.drew.cell? ⟨b, off + k * 2, none⟩ = some (.int .i64 (f k)) := g1
      have gd2 : wr.drew.cell? ⟨b, off + k * 2 + 1, none⟩ = some (.int .i64 (g k)) := g2
      clear hc hc1 hcc hf hg c1 c2
      generalize hT : txt base (catsTo f g k) = T at *
      generalize hE1 : decL (f k).toNat = D1 at *
      generalize hE2 : decL (g k).toNat = D2 at *
      generalize f k = fk at *
      generalize g k = gk at *
      have hD1' : D1.length ≤ 10000000001 := by omega
      have hD2' : D2.length ≤ 10000000001 := by omega
      have lk' : T.length ≤ 1000000000000 := by omega
      have r1 : ¬ 9223372036854775807 < T.length + 1 := by omega
      have r2 : ¬ 9223372036854775807 < T.length + 1 + D1.length := by omega
      have r3 : ¬ 9223372036854775807 < T.length + 1 + D1.length + 1 := by omega
      have r4 : ¬ 9223372036854775807 < T.length + 1 + D1.length + 1 + D2.length := by omega
      clear hT hE1 hE2 hD1 hD2 lk hf0 hg0
      go_wp2_with fail
      go_region_held3 (fun w' => w'.cell? ⟨w.heap.size, 0, none⟩ = some (.int .i64 base) ∧ w'.cell? ⟨w.heap.size, 1, none⟩ = some (.slice (some ⟨b, off, none⟩) n cap) ∧ w'.cell? ⟨b, off + k * 2, none⟩ = some (.int .i64 fk) ∧ w'.cell? ⟨b, off + k * 2 + 1, none⟩ = some (.int .i64 gk)) (go_keep)
        (first
          | (go_at_call 16; have hq := hb7; refine (P2.out _).mono ?_; rintro e w8 ⟨rfl, hb8⟩; obtain ⟨t1, t2⟩ := ((Ad.below hb7).below hb8).two; have t3 := (hb8.cell (p := ⟨b, off + k * 2, none⟩) (Nat.lt_of_lt_of_le hbd hb7.size)).trans y3; have t4 := (hb8.cell (p := ⟨b, off + k * 2 + 1, none⟩) (Nat.lt_of_lt_of_le hbd hb7.size)).trans y4)
          | (go_at_call 16; refine (P1.out _).mono ?_; rintro e w7 ⟨rfl, hb7⟩; obtain ⟨y1, y2⟩ := (Ad.below hb7).two; have y3 := (hb7.cell (p := ⟨b, off + k * 2, none⟩) hbd).trans gd1; have y4 := (hb7.cell (p := ⟨b, off + k * 2 + 1, none⟩) hbd).trans gd2))
      go_wp2
      go_roundw
      case rel =>
        refine ⟨k + 1, by omega, by go_num, ?_, (hB.drew.trans (hb7.mono hB.size)).trans (hb8.mono (Nat.le_trans hB.size hb7.size))⟩
        have ea : (⟨#[44]⟩ : ByteArray) = ⟨[44].toArray⟩ := rfl
        have eb : (⟨#[58]⟩ : ByteArray) = ⟨[58].toArray⟩ := rfl
        rw [ea, eb, bytes_app, bytes_app, bytes_app, bytes_app, HT.out]
        simp
      case measure => simp [intOf]; omega
    · have hki : ¬ (k : Int) < (n : Int) := by omega
      have ek : k = n := by omega
      subst ek
      go_wp2
      go_ret
      exact ⟨rfl, L1.trans (hB.mono L1.size)⟩
end Go.Proofs.YtcpphobokdkkeaaDoor
