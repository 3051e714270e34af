/- ReadPacket of the model and of the program, told plainly. -/
import Derived.Test.YtaefebcfgcnhlaaNPD
import Derived.Test.YtaefebcfgcnhlaaNNA
import Derived.Test.YtaefebcfgcnhlaaNV
import Derived.Deep.RegionHeld3
namespace Go.Proofs.Ytaefebcfgcnhlaa
open Go Go.RowKit Go.Deep Go.Maps

def fromOf (s : ByteArray) : Int := ((numTo (s.extract 6 10) (s.extract 6 10).size : Nat) : Int)
def toOf (s : ByteArray) : Int := ((numTo (s.extract 10 14) (s.extract 10 14).size : Nat) : Int)
def kindOf (s : ByteArray) : Int := ((at8 s 1 : Nat) : Int)
def bodyOf (s : ByteArray) : List UInt8 := s.data.toList.drop 14
theorem ext_drop (s : ByteArray) (k : Nat) : s.extract k s.size = ⟨(s.data.toList.drop k).toArray⟩ := by
  apply ByteArray.ext
  apply Array.ext'
  simp only [ByteArray.data_extract, Array.toList_extract, List.extract]
  rw [List.take_of_length_le]
  simp
theorem size_list (s : ByteArray) : s.data.toList.length = s.size := Array.length_toList
/-- what ReadPacket answers -/
def rdp (s : ByteArray) : Bool := decide (14 ≤ s.size) && decide (ptext (fromOf s) (toOf s) (kindOf s) (bodyOf s) = s.data.toList)

theorem ptext_len {f t k : Int} {B : List UInt8} : (ptext f t k B).length ≤ 214 := by
  unfold ptext
  split
  · rename_i hp
    obtain ⟨_, _, _, _, _, _, hl⟩ := pOk_facts hp
    simp [headL_len, tailL_len, bigL_len]
    omega
  · simp
theorem ptext_first {f t k : Int} {B : List UInt8} (h : ptext f t k B ≠ []) : (ptext f t k B)[0]? = some 69 := by
  unfold ptext at h ⊢
  split
  · simp [headL]
  · rename_i hp; rw [if_neg hp] at h; simp at h
theorem rdp_long {s : ByteArray} (h : 214 < s.size) : rdp s = false := by
  unfold rdp
  have : ¬ ptext (fromOf s) (toOf s) (kindOf s) (bodyOf s) = s.data.toList := fun e => by
    have hl := size_list s
    have := ptext_len (f := fromOf s) (t := toOf s) (k := kindOf s) (B := bodyOf s)
    rw [e, hl] at this
    omega
  simp [this]
theorem rdp_first {s : ByteArray} (h0 : 0 < s.size) (h : s[0] ≠ 69) : rdp s = false := by
  unfold rdp
  have : ¬ ptext (fromOf s) (toOf s) (kindOf s) (bodyOf s) = s.data.toList := fun e => by
    have hl := size_list s
    have := ptext_first (f := fromOf s) (t := toOf s) (k := kindOf s) (B := bodyOf s) (by rw [e]; intro e0; rw [e0, List.length_nil] at hl; omega)
    rw [e] at this
    have hx : s.data.toList[0]? = some s[0] := by
      rw [List.getElem?_eq_getElem (by omega)]; rfl
    rw [hx] at this
    exact h (Option.some.inj this)
  simp [this]

theorem bcell {W w1 : World} (hb : Below W.heap.size W w1) : (∀ b o, b < W.heap.size → w1.cell? ⟨b, o, none⟩ = W.cell? ⟨b, o, none⟩) ∧ (∀ b o, b < W.heap.size → w1.frozen? ⟨b, o, none⟩ = W.frozen? ⟨b, o, none⟩) :=
  ⟨fun b o h => hb.cell (p := ⟨b, o, none⟩) h, fun b o h => hb.frozen (p := ⟨b, o, none⟩) h⟩
theorem bytes_eta (s : ByteArray) : (⟨s.data.toList.toArray⟩ : ByteArray) = s := by cases s; simp
theorem rdp_iff {s : ByteArray} (h : 14 ≤ s.size) : rdp s = true ↔ (⟨(ptext (fromOf s) (toOf s) (kindOf s) (bodyOf s)).toArray⟩ : ByteArray) = s := by
  unfold rdp
  simp only [h, decide_true, Bool.true_and, decide_eq_true_eq]
  constructor
  · intro e; rw [e]
  · intro e
    have := congrArg (fun x : ByteArray => x.data.toList) e
    simpa using this
theorem toList_ext {a b : ByteArray} (h : a.toList = b.toList) : a = b := by
  rw [ByteArray.toList_eq, ByteArray.toList_eq] at h
  exact ByteArray.ext (Array.toList_inj.1 h)
theorem rdp_short {s : ByteArray} (h : ¬ 14 ≤ s.size) : rdp s = false := by simp [rdp, h]

/-- what ReadPacket gives back -/
def rdV (s : ByteArray) (q : Bool) : Value := .tuple #[.agg (if q = true then #[.int .i64 (fromOf s), .int .i64 (toOf s), .int .i64 (kindOf s), .string ⟨(bodyOf s).toArray⟩] else #[.int .i64 0, .int .i64 0, .int .i64 0, .string ⟨#[]⟩]), .bool q]

set_option maxRecDepth 100000 in
set_option maxHeartbeats 4000000 in
theorem specRead_any (s : ByteArray) (w : World) (hn : s.size ≤ 1048576) :
    Calls Try.prog 13 #[.string s] w fun e w' => e = .returned (rdV s (rdp s)) ∧ Below w.heap.size w w' := by
  have LL : ∀ u, Below w.heap.size w (w.alloc u) := fun u => (Below.refl _ w).alloc (Nat.le_refl _) u
  by_cases h14 : 14 ≤ s.size
  · by_cases hE : s[0] = 69
    · have P1 : Hid (∀ v : World, Calls Try.prog 30 #[.string (s.extract 6 10)] v fun e w' => e = .returned (.int .i64 (fromOf s)) ∧ w' = v) := fun v => l7Num_any _ v (by rw [ByteArray.size_extract]; omega)
      have P2 : Hid (∀ v : World, Calls Try.prog 30 #[.string (s.extract 10 14)] v fun e w' => e = .returned (.int .i64 (toOf s)) ∧ w' = v) := fun v => l7Num_any _ v (by rw [ByteArray.size_extract]; omega)
      have P3 : Hid (∀ v : World, Calls Try.prog 10 #[.agg #[.int .i64 (fromOf s), .int .i64 (toOf s), .int .i64 (kindOf s), .string ⟨(bodyOf s).toArray⟩]] v fun e w' => e = .returned (.string ⟨(ptext (fromOf s) (toOf s) (kindOf s) (bodyOf s)).toArray⟩) ∧ Below v.heap.size v w') := fun v => specText_any _ _ _ _ v (by unfold maxLen bodyOf; rw [List.length_drop, size_list]; omega)
      have hk : ((s[1].toNat : Nat) : Int) = kindOf s := by unfold kindOf; rw [at8_eq (by omega)]
      have hx := ext_drop s 14
      have h14' : (14 : Int) ≤ (s.size : Int) := by omega
      have hk0 : 0 ≤ kindOf s := by unfold kindOf; omega
      have hk1 : kindOf s < 256 := by have := at8_lt s 1; unfold kindOf; omega
      have h1' : (1 : Int) < (s.size : Int) := by omega
      have h10' : (10 : Int) ≤ (s.size : Int) := by omega
      have hE' : ((s[0].toNat : Nat) : Int) = 69 := by rw [hE]; rfl
      change s.extract 14 s.size = ⟨(bodyOf s).toArray⟩ at hx
      have HR := hid (rdp_iff h14)
      have HV : Hid (∀ q, rdV s q = .tuple #[.agg (if q = true then #[.int .i64 (fromOf s), .int .i64 (toOf s), .int .i64 (kindOf s), .string ⟨(bodyOf s).toArray⟩] else #[.int .i64 0, .int .i64 0, .int .i64 0, .string ⟨#[]⟩]), .bool q]) := fun q => rfl
      clear hE
      generalize rdp s = Q at *
      generalize (⟨(ptext (fromOf s) (toOf s) (kindOf s) (bodyOf s)).toArray⟩ : ByteArray) = T at *
      generalize fromOf s = F at *
      generalize toOf s = TT at *
      generalize kindOf s = KK at *
      generalize (⟨(bodyOf s).toArray⟩ : ByteArray) = BB at *
      generalize rdV s = RV at *
      go_enter Try.func13, Try.ntmps13
      go_wp2_with fail
      go_region_held3 (fun _ => True) (trivial) (first | (go_at_call 30; have mk := mk1; refine (P2.out _).mono ?_; rintro e w' ⟨rfl, rfl⟩) | (go_at_call 30; refine (P1.out _).mono ?_; rintro e w' ⟨rfl, rfl⟩; have mk1 : True := trivial))
      all_goals
        go_wp2_with fail
        refine (P3.out _).mono ?_
        rintro e w3 ⟨rfl, hb3⟩
        obtain ⟨q1, p1⟩ := bcell hb3
        have z1 : w.heap.size + 1 < w3.heap.size := by have := hb3.size; simp at this; omega
        have z1' : w.heap.size < w3.heap.size := by omega
        have L3 : Below w.heap.size w w3 := by
          refine Below.trans ?_ (hb3.mono (by simp; omega))
          exact ((LL _).alloc (by simp) _).drew
        have c0 : w3.cell? ⟨w.heap.size, 0, none⟩ = some (.int .i64 0) := by rw [q1 _ _ (by simp; omega)]; simp [go_sem]
        have c1 : w3.cell? ⟨w.heap.size, 1, none⟩ = some (.int .i64 0) := by rw [q1 _ _ (by simp; omega)]; simp [go_sem]
        have c2 : w3.cell? ⟨w.heap.size, 2, none⟩ = some (.int .i64 0) := by rw [q1 _ _ (by simp; omega)]; simp [go_sem]
        have c3 : w3.cell? ⟨w.heap.size, 3, none⟩ = some (.string ⟨#[]⟩) := by rw [q1 _ _ (by simp; omega)]; simp [go_sem]
        have d0 : w3.cell? ⟨w.heap.size + 1, 0, none⟩ = some (.int .i64 F) := by rw [q1 _ _ (by simp)]; simp [go_sem]
        have d1 : w3.cell? ⟨w.heap.size + 1, 1, none⟩ = some (.int .i64 TT) := by rw [q1 _ _ (by simp)]; simp [go_sem]
        have d2 : w3.cell? ⟨w.heap.size + 1, 2, none⟩ = some (.int .i64 KK) := by rw [q1 _ _ (by simp)]; simp [go_sem]
        have d3 : w3.cell? ⟨w.heap.size + 1, 3, none⟩ = some (.string BB) := by rw [q1 _ _ (by simp)]; simp [go_sem]
        have f0 : w3.frozen? ⟨w.heap.size, 0, none⟩ = false := by rw [p1 _ _ (by simp; omega)]; simp [go_sem]
        have f1 : w3.frozen? ⟨w.heap.size, 1, none⟩ = false := by rw [p1 _ _ (by simp; omega)]; simp [go_sem]
        have f2 : w3.frozen? ⟨w.heap.size, 2, none⟩ = false := by rw [p1 _ _ (by simp; omega)]; simp [go_sem]
        have f3 : w3.frozen? ⟨w.heap.size, 3, none⟩ = false := by rw [p1 _ _ (by simp; omega)]; simp [go_sem]
        clear hb3 q1 p1
        go_wp2
        · have hne := ‹(!T.toList == s.toList) = true›
          have hQ : Q = false := by
            cases hQ : Q with
            | false => rfl
            | true =>
              have e := HR.out.1 hQ
              rw [e] at hne
              simp at hne
          subst hQ
          refine bodyPost_ret (v := .tuple #[.agg #[.int .i64 0, .int .i64 0, .int .i64 0, .string ⟨#[]⟩], .bool false]) (by simp [results, Try.results13, go_sem, c0, c1, c2, c3]) rfl ⟨by rw [HV.out]; rfl, ?_⟩
          iterate 4 (refine Below.setCell ?_ (by dsimp only; omega) _)
          exact L3
        · have heq := ‹(!T.toList == s.toList) = false›
          have hQ : Q = true := HR.out.2 (toList_ext (by simpa using heq))
          subst hQ
          refine bodyPost_ret (v := .tuple #[.agg #[.int .i64 F, .int .i64 TT, .int .i64 KK, .string BB], .bool true]) (by simp [results, Try.results13, go_sem, c0, c1, c2, c3]) rfl ⟨by rw [HV.out]; rfl, ?_⟩
          iterate 4 (refine Below.setCell ?_ (by dsimp only; omega) _)
          exact L3
    · have hb := hid (rdp_first (s := s) (by omega) hE)
      have hE' : ¬ ((s[0].toNat : Nat) : Int) = 69 := fun e => hE (UInt8.toNat_inj.1 (by rw [show ((69 : UInt8).toNat) = 69 from rfl]; omega))
      have h14' : ¬ (s.size : Int) < 14 := by omega
      have h0 : 0 < s.size := by omega
      clear hE
      rw [hb.out]
      clear hb
      go_enter Try.func13, Try.ntmps13
      go_wp2
      exact bodyPost_ret (v := .tuple #[.agg #[.int .i64 0, .int .i64 0, .int .i64 0, .string ⟨#[]⟩], .bool false]) (by simp [results, Try.results13, go_sem]) rfl ⟨rfl, LL _⟩
  · rw [rdp_short h14]
    have h14' : (s.size : Int) < 14 := by omega
    go_enter Try.func13, Try.ntmps13
    go_wp2
    exact bodyPost_ret (v := .tuple #[.agg #[.int .i64 0, .int .i64 0, .int .i64 0, .string ⟨#[]⟩], .bool false]) (by simp [results, Try.results13, go_sem]) rfl ⟨rfl, LL _⟩
end Go.Proofs.Ytaefebcfgcnhlaa
