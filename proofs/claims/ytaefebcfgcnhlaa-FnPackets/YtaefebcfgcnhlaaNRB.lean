/- ReadPacket of the program, told plainly. -/
import Derived.Test.YtaefebcfgcnhlaaNRA
namespace Go.Proofs.Ytaefebcfgcnhlaa
open Go Go.RowKit Go.Deep Go.Maps

theorem clone_any (s : ByteArray) (w : World) (hn : s.size ≤ 281474976710656) :
    Calls Try.prog 26 #[.string s] w fun e w' => e = .returned (.string s) ∧ Below w.heap.size w w' := by
  have hc := fun v => Go.Proofs.Any.stringslite_Clone Try.cloneA s v hn
  change ∀ v : World, Calls Try.prog 42 #[.string s] v fun e w' => e = .returned (.string s) ∧ Below v.heap.size v w' at hc
  go_enter Try.func26, Try.ntmps26
  go_wp2_with fail
  refine (hc _).mono ?_
  rintro e w1 ⟨rfl, hb⟩
  go_wp2
  go_ret
  exact ⟨rfl, hb⟩

set_option maxRecDepth 100000 in
set_option maxHeartbeats 4000000 in
theorem implRead_any (s : ByteArray) (w : World) (hn : s.size ≤ 1048576) :
    Calls Try.prog 9 #[.string s] w fun e w' => e = .returned (rdV s (rdp s)) ∧ Below w.heap.size w w' := by
  have LL : ∀ u, Below w.heap.size w (w.alloc u) := fun u => (Below.refl _ w).alloc (Nat.le_refl _) u
  by_cases h14 : 14 ≤ s.size
  · by_cases h214 : s.size ≤ 214
    · have P1 : Hid (∀ v : World, Calls Try.prog 25 #[.string (s.extract 6 10)] v fun e w' => e = .returned (.int .i64 (fromOf s)) ∧ w' = v) := fun v => readHigh_any _ v (by rw [ByteArray.size_extract]; omega)
      have P2 : Hid (∀ v : World, Calls Try.prog 25 #[.string (s.extract 10 14)] v fun e w' => e = .returned (.int .i64 (toOf s)) ∧ w' = v) := fun v => readHigh_any _ v (by rw [ByteArray.size_extract]; omega)
      have P3 : Hid (∀ v : World, Calls Try.prog 8 #[.agg #[.int .i64 (fromOf s), .int .i64 (toOf s), .int .i64 (kindOf s), .string ⟨(bodyOf s).toArray⟩]] v fun e w' => e = .returned (.string ⟨(ptext (fromOf s) (toOf s) (kindOf s) (bodyOf s)).toArray⟩) ∧ Below v.heap.size v w') := fun v => implText_any _ _ _ _ v
      have P4 : Hid (∀ v : World, Calls Try.prog 26 #[.string ⟨(bodyOf s).toArray⟩] v fun e w' => e = .returned (.string ⟨(bodyOf s).toArray⟩) ∧ Below v.heap.size v w') := fun v => clone_any _ v (by rw [← size_list]; simp [bodyOf]; omega)
      have hk : ((s[1].toNat : Nat) : Int) = kindOf s := by unfold kindOf; rw [at8_eq (by omega)]
      have hx := ext_drop s 14
      have h14' : (14 : Int) ≤ (s.size : Int) := by omega
      have h214' : ¬ (214 : Int) < (s.size : Int) := by omega
      have hk0 : 0 ≤ kindOf s := by unfold kindOf; omega
      have hk1 : kindOf s < 256 := by have := at8_lt s 1; unfold kindOf; omega
      have h1' : (1 : Int) < (s.size : Int) := by omega
      have h10' : (10 : Int) ≤ (s.size : Int) := by omega
      change s.extract 14 s.size = ⟨(bodyOf s).toArray⟩ at hx
      have HR := hid (rdp_iff h14)
      have HV : Hid (∀ q, rdV s q = .tuple #[.agg (if q = true then #[.int .i64 (fromOf s), .int .i64 (toOf s), .int .i64 (kindOf s), .string ⟨(bodyOf s).toArray⟩] else #[.int .i64 0, .int .i64 0, .int .i64 0, .string ⟨#[]⟩]), .bool q]) := fun q => rfl
      generalize rdp s = Q at *
      generalize (⟨(ptext (fromOf s) (toOf s) (kindOf s) (bodyOf s)).toArray⟩ : ByteArray) = T at *
      generalize fromOf s = F at *
      generalize toOf s = TT at *
      generalize kindOf s = KK at *
      generalize (⟨(bodyOf s).toArray⟩ : ByteArray) = BB at *
      generalize rdV s = RV at *
      have hkw : IntKind.i64.wrap KK = KK := by rw [IntKind.wrap_i64]; omega
      go_enter Try.func9, Try.ntmps9
      go_wp2_with fail
      go_region_held3 (fun _ => True) (trivial) (first | (go_at_call 26; refine (P4.out _).mono ?_; rintro e w1 ⟨rfl, hb1⟩; obtain ⟨q1, p1⟩ := bcell hb1) | (go_at_call 25; have mk := mk1; refine (P2.out _).mono ?_; rintro e w' ⟨rfl, rfl⟩) | (go_at_call 25; refine (P1.out _).mono ?_; rintro e w' ⟨rfl, rfl⟩; have mk1 : True := trivial))
      all_goals
        have z1 : w.heap.size < w1.heap.size := by have := hb1.size; simp at this; omega
        go_wp2_with fail
        refine (P3.out _).mono ?_
        rintro e w3 ⟨rfl, hb3⟩
        obtain ⟨q3, p3⟩ := bcell hb3
        have c0 : w3.cell? ⟨w.heap.size, 0, none⟩ = some (.int .i64 0) := by
          rw [q3 _ _ (by simp; omega)]
          first
            | (rw [((Below.refl _ w1).alloc (Nat.le_refl _) _).cell (by exact z1), q1 _ _ (by simp)]; simp [go_sem])
            | (simp [go_sem, q1])
        have c1 : w3.cell? ⟨w.heap.size, 1, none⟩ = some (.int .i64 0) := by
          rw [q3 _ _ (by simp; omega)]
          first
            | (rw [((Below.refl _ w1).alloc (Nat.le_refl _) _).cell (by exact z1), q1 _ _ (by simp)]; simp [go_sem])
            | (simp [go_sem, q1])
        have c2 : w3.cell? ⟨w.heap.size, 2, none⟩ = some (.int .i64 0) := by
          rw [q3 _ _ (by simp; omega)]
          first
            | (rw [((Below.refl _ w1).alloc (Nat.le_refl _) _).cell (by exact z1), q1 _ _ (by simp)]; simp [go_sem])
            | (simp [go_sem, q1])
        have c3 : w3.cell? ⟨w.heap.size, 3, none⟩ = some (.string ⟨#[]⟩) := by
          rw [q3 _ _ (by simp; omega)]
          first
            | (rw [((Below.refl _ w1).alloc (Nat.le_refl _) _).cell (by exact z1), q1 _ _ (by simp)]; simp [go_sem])
            | (simp [go_sem, q1])
        have f0 : w3.frozen? ⟨w.heap.size, 0, none⟩ = false := by
          rw [p3 _ _ (by simp; omega)]
          first
            | (rw [((Below.refl _ w1).alloc (Nat.le_refl _) _).frozen (by exact z1), p1 _ _ (by simp)]; simp [go_sem])
            | (simp [go_sem, p1])
        have f1 : w3.frozen? ⟨w.heap.size, 1, none⟩ = false := by
          rw [p3 _ _ (by simp; omega)]
          first
            | (rw [((Below.refl _ w1).alloc (Nat.le_refl _) _).frozen (by exact z1), p1 _ _ (by simp)]; simp [go_sem])
            | (simp [go_sem, p1])
        have f2 : w3.frozen? ⟨w.heap.size, 2, none⟩ = false := by
          rw [p3 _ _ (by simp; omega)]
          first
            | (rw [((Below.refl _ w1).alloc (Nat.le_refl _) _).frozen (by exact z1), p1 _ _ (by simp)]; simp [go_sem])
            | (simp [go_sem, p1])
        have f3 : w3.frozen? ⟨w.heap.size, 3, none⟩ = false := by
          rw [p3 _ _ (by simp; omega)]
          first
            | (rw [((Below.refl _ w1).alloc (Nat.le_refl _) _).frozen (by exact z1), p1 _ _ (by simp)]; simp [go_sem])
            | (simp [go_sem, p1])
        try have z2 : w.heap.size + 1 < w1.heap.size := by have := hb1.size; simp at this; omega
        try have e0 : w1.cell? ⟨w.heap.size + 1, 0, none⟩ = some (.int .i64 0) := by rw [q1 _ _ (by simp)]; simp [go_sem]
        try have e1 : w1.cell? ⟨w.heap.size + 1, 1, none⟩ = some (.int .i64 0) := by rw [q1 _ _ (by simp)]; simp [go_sem]
        try have e2 : w1.cell? ⟨w.heap.size + 1, 2, none⟩ = some (.int .i64 0) := by rw [q1 _ _ (by simp)]; simp [go_sem]
        try have e3 : w1.cell? ⟨w.heap.size + 1, 3, none⟩ = some (.string ⟨#[]⟩) := by rw [q1 _ _ (by simp)]; simp [go_sem]
        try have d0 : w3.cell? ⟨w.heap.size + 1, 0, none⟩ = some (.int .i64 F) := by rw [q3 _ _ (by simp; omega)]; simp [go_sem, e0]
        try have d1 : w3.cell? ⟨w.heap.size + 1, 1, none⟩ = some (.int .i64 TT) := by rw [q3 _ _ (by simp; omega)]; simp [go_sem, e1]
        try have d2 : w3.cell? ⟨w.heap.size + 1, 2, none⟩ = some (.int .i64 KK) := by rw [q3 _ _ (by simp; omega)]; simp [go_sem, e2]
        try have d3 : w3.cell? ⟨w.heap.size + 1, 3, none⟩ = some (.string BB) := by rw [q3 _ _ (by simp; omega)]; simp [go_sem, e3]
        have L3 : Below w.heap.size w w3 := by
          refine Below.trans ?_ (hb3.mono (by simp; omega))
          first
            | (refine Below.alloc ?_ (by omega) _
               refine Below.trans ?_ (hb1.mono (by simp))
               exact (LL _).drew)
            | (iterate 4 (refine Below.setCell ?_ (by dsimp only; omega) _)
               refine Below.trans ?_ (hb1.mono (by simp; omega))
               exact ((LL _).alloc (by simp) _).drew)
        have z3 : w.heap.size < w3.heap.size := by have := hb3.size; simp at this; omega
        clear hb3
        go_wp2
        · have hne := ‹(!T.toList == s.toList) = true›
          have hQ : Q = false := by
            cases hQ : Q with
            | false => rfl
            | true =>
              have e := HR.out.1 hQ
              rw [e] at hne
              simp at hne
          subst hQ
          refine bodyPost_ret (v := .tuple #[.agg #[.int .i64 0, .int .i64 0, .int .i64 0, .string ⟨#[]⟩], .bool false]) (by simp [results, Try.results9, go_sem, c0, c1, c2, c3]) rfl ⟨by rw [HV.out]; rfl, ?_⟩
          iterate 4 (refine Below.setCell ?_ (by dsimp only; omega) _)
          exact L3
        · have heq := ‹(!T.toList == s.toList) = false›
          have hQ : Q = true := HR.out.2 (toList_ext (by simpa using heq))
          subst hQ
          refine bodyPost_ret (v := .tuple #[.agg #[.int .i64 F, .int .i64 TT, .int .i64 KK, .string BB], .bool true]) (by simp [results, Try.results9, go_sem, c0, c1, c2, c3]) rfl ⟨by rw [HV.out]; rfl, ?_⟩
          iterate 4 (refine Below.setCell ?_ (by dsimp only; omega) _)
          exact L3
    · rw [rdp_long (by omega)]
      have h14' : ¬ (s.size : Int) < 14 := by omega
      have h214' : (214 : Int) < (s.size : Int) := by omega
      go_enter Try.func9, Try.ntmps9
      go_wp2
      exact bodyPost_ret (v := .tuple #[.agg #[.int .i64 0, .int .i64 0, .int .i64 0, .string ⟨#[]⟩], .bool false]) (by simp [results, Try.results9, go_sem]) rfl ⟨rfl, LL _⟩
  · rw [rdp_short h14]
    have h14' : (s.size : Int) < 14 := by omega
    go_enter Try.func9, Try.ntmps9
    go_wp2
    exact bodyPost_ret (v := .tuple #[.agg #[.int .i64 0, .int .i64 0, .int .i64 0, .string ⟨#[]⟩], .bool false]) (by simp [results, Try.results9, go_sem]) rfl ⟨rfl, LL _⟩
end Go.Proofs.Ytaefebcfgcnhlaa
