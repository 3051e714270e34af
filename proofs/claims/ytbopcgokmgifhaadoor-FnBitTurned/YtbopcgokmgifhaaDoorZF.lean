/- Opened of the model. -/
import Derived.Test.YtbopcgokmgifhaaDoorZE
namespace Go.Proofs.YtbopcgokmgifhaaDoor
open Go Go.RowKit Go.Deep Go.Maps

/-- the parts of a record -/
def fr (r : ByteArray) : ByteArray := r.extract 0 (r.size - 4)
def tl (r : ByteArray) : ByteArray := r.extract (r.size - 4) r.size
def bd (r : ByteArray) : ByteArray := r.extract 6 (r.size - 4)
def nc (r : ByteArray) : Nat := numTo (r.extract 0 6) 6
def sumOf (r : ByteArray) : ByteArray := ⟨(lowL (crc (fr r) : Nat)).toArray⟩
def padOf (s r : ByteArray) : ByteArray := (strmAns s (nc r : Nat) ((r.size - 10 : Nat) : Int)).1
def openOk (s r : ByteArray) : Prop := 10 ≤ r.size ∧ r.size ≤ 210 ∧ sumOf r = tl r ∧ strmOk s (nc r : Nat) ((r.size - 10 : Nat) : Int)
instance (s r : ByteArray) : Decidable (openOk s r) := by unfold openOk; infer_instance
def openAns (s r : ByteArray) : Int × ByteArray × Bool := if openOk s r then ((nc r : Nat), ⟨(xl (bd r) (padOf s r) (r.size - 10)).toArray⟩, true) else (0, ⟨#[]⟩, false)
theorem openNo {s r : ByteArray} (h : ¬ openOk s r) : openAns s r = (0, ⟨#[]⟩, false) := by rw [openAns, if_neg h]
theorem ret_open {a c : Int} {t u : ByteArray} {p q : Bool} (h1 : a = c) (h2 : t = u) (h3 : p = q) : Ending.returned (.tuple #[.int .i64 a, .string t, .bool p]) = .returned (.tuple #[.int .i64 c, .string u, .bool q]) := by rw [h1, h2, h3]
theorem bytes_ext {a b : ByteArray} (h : a.toList = b.toList) : a = b := by
  apply ByteArray.ext
  apply Array.ext'
  rw [← ByteArray.toList_eq, ← ByteArray.toList_eq]
  exact h
theorem Tab4.drew {w : World} (h : Tab4 w) : Tab4 w.drew := h
theorem bd_size {r : ByteArray} (h : 10 ≤ r.size) : (bd r).size = r.size - 10 := by rw [bd, ByteArray.size_extract]; omega
theorem fr_size (r : ByteArray) : (fr r).size = r.size - 4 := by rw [fr, ByteArray.size_extract]; omega
theorem l7Num_nc (r : ByteArray) (w : World) (h : 10 ≤ r.size) : Calls Tryd.prog 30 #[.string (r.extract 0 6)] w fun e w' => e = .returned (.int .i64 (nc r : Nat)) ∧ w' = w := by
  have h6 : (r.extract 0 6).size = 6 := by rw [ByteArray.size_extract]; omega
  refine (l7Num_any (r.extract 0 6) w (by omega)).mono ?_
  rintro e w1 ⟨rfl, rfl⟩
  rw [h6]
  exact ⟨rfl, rfl⟩
theorem readHigh_nc (r : ByteArray) (w : World) (h : 10 ≤ r.size) : Calls Tryd.prog 25 #[.string (r.extract 0 6)] w fun e w' => e = .returned (.int .i64 (nc r : Nat)) ∧ w' = w := by
  have h6 : (r.extract 0 6).size = 6 := by rw [ByteArray.size_extract]; omega
  refine (readHigh_any (r.extract 0 6) w (by omega)).mono ?_
  rintro e w1 ⟨rfl, rfl⟩
  rw [h6]
  exact ⟨rfl, rfl⟩

set_option maxRecDepth 100000 in
set_option maxHeartbeats 1000000 in
theorem specOpened_mid (s r : ByteArray) (w : World) (h1 : 10 ≤ r.size) (h2 : r.size ≤ 210) (hs : s.size = 16) :
    Calls Tryd.prog 12 #[.string s, .string r] w fun e w' => e = .returned (.tuple #[.int .i64 (openAns s r).1, .string (openAns s r).2.1, .bool (openAns s r).2.2]) ∧ Below w.heap.size w w' := by
  obtain ⟨n, hn⟩ : ∃ n, r.size = n + 4 := ⟨r.size - 4, by omega⟩
  have P1 : Hid (∀ w, Calls Tryd.prog 24 #[.string (r.extract 0 n)] w fun e w' => e = .returned (.string (sumOf r)) ∧ Below w.heap.size w w') := fun w => by
    have t := l9Sum_any (fr r) w (by rw [fr_size]; omega)
    rw [fr, hn] at t
    have e : (⟨(lowL (crc (r.extract 0 (n + 4 - 4)) : Nat)).toArray⟩ : ByteArray) = sumOf r := by rw [sumOf, fr, hn]
    rw [e] at t
    exact t
  have q1 : decide ((n : Int) < 6) = false := decide_eq_false (by omega)
  have q2 : decide ((206 : Int) < n) = false := decide_eq_false (by omega)
  have q3 : (n : Int) ≤ (n : Int) + 4 := by omega
  have q4 : (0 : Int) ≤ (n : Int) := by omega
  have q5 : (6 : Int) ≤ (n : Int) := by omega
  have q6 : (6 : Int) ≤ (n : Int) + 4 := by omega
  have Htl : Hid (r.extract n (n + 4) = tl r) := by show _ = _; rw [tl, hn]; rfl
  by_cases he : sumOf r = tl r
  · have hc : ((sumOf r).toList == (r.extract n (n + 4)).toList) = true := by rw [Htl.out, he]; exact beq_self_eq_true _
    have HN := hid (fun w => l7Num_nc r w h1)
    have P2 := hid (fun w => specStream_any s (nc r : Nat) ((r.size - 10 : Nat) : Int) w)
    have Hbd : Hid (r.extract 6 n = bd r) := by show _ = _; rw [bd, hn]; rfl
    have h10 : ((r.size - 10 : Nat) : Int) = (n : Int) - 6 := by omega
    rw [h10] at P2
    by_cases hok : strmOk s (nc r : Nat) ((r.size - 10 : Nat) : Int)
    · have E : Hid (openAns s r = (((nc r : Nat) : Int), (⟨(xl (bd r) (padOf s r) (r.size - 10)).toArray⟩ : ByteArray), true)) := by show _ = _; rw [openAns, if_pos ⟨h1, h2, he, hok⟩]
      have hps : (padOf s r).size = r.size - 10 := strmAns_size s _ _ hok
      have Hp1 : Hid ((strmAns s (nc r : Nat) ((n : Int) - 6)).1 = padOf s r) := by show _ = _; rw [← h10]; rfl
      have Hp2 : Hid ((strmAns s (nc r : Nat) ((n : Int) - 6)).2 = true) := by show _ = _; rw [← h10]; exact strmAns_ok _ _ _ hok
      rw [Hp1.out, Hp2.out] at P2
      have P3 : Hid (∀ w, Calls Tryd.prog 23 #[.string (r.extract 6 n), .string (padOf s r)] w fun e w' => e = .returned (.string ⟨(xl (bd r) (padOf s r) (r.size - 10)).toArray⟩) ∧ Below w.heap.size w w') := fun w => by
        have t := l9Xor_any (bd r) (padOf s r) w (by rw [bd_size h1, hps]; exact Nat.le_refl _) (by rw [bd_size h1]; omega)
        rw [bd_size h1] at t
        rw [Hbd.out]
        exact t
      generalize padOf s r = pad at *
      generalize (⟨(xl (bd r) pad (r.size - 10)).toArray⟩ : ByteArray) = X at *
      generalize nc r = N at *
      generalize sumOf r = S at *
      clear h10 hok he hps Hp1 Hp2
      go_enter Tryd.func12, Tryd.ntmps12
      go_wp2
      go_region_held3 (fun _ => True) (trivial) (first | (go_at_call 24; refine (P1.out _).mono ?_; rintro e w1 ⟨rfl, b1⟩))
      go_wp2_with (first
        | (go_at_call 30; refine (HN.out _).mono ?_; rintro e w2 ⟨rfl, hw2⟩; subst w2)
        | (go_at_call 21; refine (P2.out _).mono ?_; rintro e w3 ⟨rfl, b3⟩)
        | (go_at_call 23; refine (P3.out _).mono ?_; rintro e w4 ⟨rfl, b4⟩))
      refine bodyPost_ret (v := .tuple #[.int .i64 (N : Nat), .string X, .bool true]) (by simp [results, Tryd.results12]) rfl ⟨by rw [E.out], ?_⟩
      have c1 : Below w.heap.size w w1 := (Below.refl _ w).drew.trans b1
      exact c1.trans ((b3.mono c1.size).trans (b4.mono (Nat.le_trans c1.size b3.size)))
    · have E : Hid (openAns s r = (0, ⟨#[]⟩, false)) := openNo fun h => hok h.2.2.2
      have Hp : Hid (strmAns s (nc r : Nat) ((n : Int) - 6) = (⟨#[]⟩, false)) := by show _ = _; rw [← h10]; exact strmAns_no _ _ _ hok
      rw [Hp.out] at P2
      generalize nc r = N at *
      generalize sumOf r = S at *
      clear h10 hok he
      go_enter Tryd.func12, Tryd.ntmps12
      go_wp2
      go_region_held3 (fun _ => True) (trivial) (first | (go_at_call 24; refine (P1.out _).mono ?_; rintro e w1 ⟨rfl, b1⟩))
      go_wp2_with (first
        | (go_at_call 30; refine (HN.out _).mono ?_; rintro e w2 ⟨rfl, hw2⟩; subst w2)
        | (go_at_call 21; refine (P2.out _).mono ?_; rintro e w3 ⟨rfl, b3⟩))
      refine bodyPost_ret (v := .tuple #[.int .i64 0, .string ⟨#[]⟩, .bool false]) (by simp [results, Tryd.results12]) rfl ⟨by rw [E.out], ?_⟩
      have c1 : Below w.heap.size w w1 := (Below.refl _ w).drew.trans b1
      exact c1.trans (b3.mono c1.size)
  · have E : Hid (openAns s r = (0, ⟨#[]⟩, false)) := openNo fun h => he h.2.2.1
    have hc : ((sumOf r).toList == (r.extract n (n + 4)).toList) = false := by
      rw [Htl.out]
      refine beq_eq_false_iff_ne.2 fun h => he ?_
      exact bytes_ext h
    generalize sumOf r = S at *
    clear he
    go_enter Tryd.func12, Tryd.ntmps12
    go_wp2
    go_region_held3 (fun _ => True) (trivial) (first | (go_at_call 24; refine (P1.out _).mono ?_; rintro e w1 ⟨rfl, b1⟩))
    go_wp2
    refine bodyPost_ret (v := .tuple #[.int .i64 0, .string ⟨#[]⟩, .bool false]) (by simp [results, Tryd.results12]) rfl ⟨by rw [E.out], ?_⟩
    exact (Below.refl _ w).drew.trans b1

set_option maxRecDepth 100000 in
set_option maxHeartbeats 1000000 in
theorem implOpened_mid (s r : ByteArray) (w : World) (h1 : 10 ≤ r.size) (h2 : r.size ≤ 210) (hT : Tab4 w) :
    Calls Tryd.prog 9 #[.string s, .string r] w fun e w' => e = .returned (.tuple #[.int .i64 (openAns s r).1, .string (openAns s r).2.1, .bool (openAns s r).2.2]) ∧ Below w.heap.size w w' := by
  obtain ⟨n, hn⟩ : ∃ n, r.size = n + 4 := ⟨r.size - 4, by omega⟩
  have P1 : Hid (∀ w, Tab4 w → Calls Tryd.prog 20 #[.string (r.extract 0 n)] w fun e w' => e = .returned (.string (sumOf r)) ∧ Below w.heap.size w w') := fun w h => by
    have t := crcText_any (fr r) w (by rw [fr_size]; omega) h
    rw [fr, hn] at t
    have e : (⟨(lowL (crc (r.extract 0 (n + 4 - 4)) : Nat)).toArray⟩ : ByteArray) = sumOf r := by rw [sumOf, fr, hn]
    rw [e] at t
    exact t
  have HT := hid hT
  clear hT
  have q1 : decide ((n : Int) + 4 < 10) = false := decide_eq_false (by omega)
  have q2 : decide ((210 : Int) < (n : Int) + 4) = false := decide_eq_false (by omega)
  have q3 : (n : Int) ≤ (n : Int) + 4 := by omega
  have q4 : (0 : Int) ≤ (n : Int) := by omega
  have q5 : (6 : Int) ≤ (n : Int) := by omega
  have q6 : (6 : Int) ≤ (n : Int) + 4 := by omega
  have Htl : Hid (r.extract n (n + 4) = tl r) := by show _ = _; rw [tl, hn]; rfl
  by_cases he : sumOf r = tl r
  · have hc : ((r.extract n (n + 4)).toList == (sumOf r).toList) = true := by rw [Htl.out, he]; exact beq_self_eq_true _
    have HN := hid (fun w => readHigh_nc r w h1)
    have P2 := hid (fun w => implStream_any s (nc r : Nat) ((r.size - 10 : Nat) : Int) w)
    have Hbd : Hid (r.extract 6 n = bd r) := by show _ = _; rw [bd, hn]; rfl
    have hbz : (bd r).size = r.size - 10 := bd_size h1
    have h10 : ((r.size - 10 : Nat) : Int) = ((bd r).size : Int) := by rw [hbz]
    rw [h10] at P2
    by_cases hok : strmOk s (nc r : Nat) ((r.size - 10 : Nat) : Int)
    · have E : Hid (openAns s r = (((nc r : Nat) : Int), (⟨(xl (bd r) (padOf s r) (r.size - 10)).toArray⟩ : ByteArray), true)) := by show _ = _; rw [openAns, if_pos ⟨h1, h2, he, hok⟩]
      have hps : (padOf s r).size = r.size - 10 := strmAns_size s _ _ hok
      have Hp1 : Hid ((strmAns s (nc r : Nat) ((bd r).size : Int)).1 = padOf s r) := by show _ = _; rw [← h10]; rfl
      have Hp2 : Hid ((strmAns s (nc r : Nat) ((bd r).size : Int)).2 = true) := by show _ = _; rw [← h10]; exact strmAns_ok _ _ _ hok
      rw [Hp1.out, Hp2.out] at P2
      have P3 : Hid (∀ w, Calls Tryd.prog 19 #[.string (bd r), .string (padOf s r)] w fun e w' => e = .returned (.string ⟨(xl (bd r) (padOf s r) (r.size - 10)).toArray⟩) ∧ Below w.heap.size w w') := fun w => by
        have t := xored_any (bd r) (padOf s r) w (by rw [bd_size h1, hps]; exact Nat.le_refl _) (by rw [bd_size h1]; omega)
        rw [bd_size h1] at t
        exact t
      generalize padOf s r = pad at *
      generalize (⟨(xl (bd r) pad (r.size - 10)).toArray⟩ : ByteArray) = X at *
      generalize nc r = N at *
      generalize sumOf r = S at *
      have hbx := Hbd.out
      generalize bd r = B at *
      clear hbz
      clear h10 hok he hps Hp1 Hp2
      go_enter Tryd.func9, Tryd.ntmps9
      go_wp2
      go_region_held3 (fun _ => True) (trivial) (first | (go_at_call 20; refine (P1.out _ HT.out.drew).mono ?_; rintro e w1 ⟨rfl, b1⟩))
      go_wp2
      go_region_held3 (fun _ => True) (trivial) (first | (go_at_call 25; refine (HN.out _).mono ?_; rintro e w2 ⟨rfl, hw2⟩; subst w2))
      go_wp2_with (first
        | (go_at_call 25; refine (HN.out _).mono ?_; rintro e w2 ⟨rfl, hw2⟩; subst w2)
        | (go_at_call 10; refine (P2.out _).mono ?_; rintro e w3 ⟨rfl, b3⟩)
        | (go_at_call 19; refine (P3.out _).mono ?_; rintro e w4 ⟨rfl, b4⟩))
      refine bodyPost_ret (v := .tuple #[.int .i64 (N : Nat), .string X, .bool true]) (by simp [results, Tryd.results9]) rfl ⟨by rw [E.out], ?_⟩
      have c1 : Below w.heap.size w w1 := (Below.refl _ w).drew.trans b1
      exact c1.trans ((((Below.refl _ _).drew.trans b3).mono c1.size).trans (b4.mono (Nat.le_trans c1.size b3.size)))
    · have E : Hid (openAns s r = (0, ⟨#[]⟩, false)) := openNo fun h => hok h.2.2.2
      have Hp : Hid (strmAns s (nc r : Nat) ((bd r).size : Int) = (⟨#[]⟩, false)) := by show _ = _; rw [← h10]; exact strmAns_no _ _ _ hok
      rw [Hp.out] at P2
      generalize nc r = N at *
      generalize sumOf r = S at *
      have hbx := Hbd.out
      generalize bd r = B at *
      clear hbz
      clear h10 hok he
      go_enter Tryd.func9, Tryd.ntmps9
      go_wp2
      go_region_held3 (fun _ => True) (trivial) (first | (go_at_call 20; refine (P1.out _ HT.out.drew).mono ?_; rintro e w1 ⟨rfl, b1⟩))
      go_wp2
      go_region_held3 (fun _ => True) (trivial) (first | (go_at_call 25; refine (HN.out _).mono ?_; rintro e w2 ⟨rfl, hw2⟩; subst w2))
      go_wp2_with (first
        | (go_at_call 25; refine (HN.out _).mono ?_; rintro e w2 ⟨rfl, hw2⟩; subst w2)
        | (go_at_call 10; refine (P2.out _).mono ?_; rintro e w3 ⟨rfl, b3⟩))
      refine bodyPost_ret (v := .tuple #[.int .i64 0, .string ⟨#[]⟩, .bool false]) (by simp [results, Tryd.results9]) rfl ⟨by rw [E.out], ?_⟩
      have c1 : Below w.heap.size w w1 := (Below.refl _ w).drew.trans b1
      exact c1.trans (((Below.refl _ _).drew.trans b3).mono c1.size)
  · have E : Hid (openAns s r = (0, ⟨#[]⟩, false)) := openNo fun h => he h.2.2.1
    have hc : ((r.extract n (n + 4)).toList == (sumOf r).toList) = false := by
      rw [Htl.out]
      refine beq_eq_false_iff_ne.2 fun h => he ?_
      exact (bytes_ext h).symm
    generalize sumOf r = S at *
    clear he
    go_enter Tryd.func9, Tryd.ntmps9
    go_wp2
    go_region_held3 (fun _ => True) (trivial) (first | (go_at_call 20; refine (P1.out _ HT.out.drew).mono ?_; rintro e w1 ⟨rfl, b1⟩))
    go_wp2
    refine bodyPost_ret (v := .tuple #[.int .i64 0, .string ⟨#[]⟩, .bool false]) (by simp [results, Tryd.results9]) rfl ⟨by rw [E.out], ?_⟩
    exact (Below.refl _ w).drew.trans b1
end Go.Proofs.YtbopcgokmgifhaaDoor
