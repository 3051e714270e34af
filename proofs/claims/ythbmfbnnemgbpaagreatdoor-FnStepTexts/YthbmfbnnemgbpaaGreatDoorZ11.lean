/- StepText of the model. -/
import Derived.Test.YthbmfbnnemgbpaaGreatDoorKB10
import Derived.Test.YthbmfbnnemgbpaaGreatDoorZ9
import Derived.Test.YthbmfbnnemgbpaaGreatDoorHE
import Derived.BigQuiet
import Derived.Test.YthbmfbnnemgbpaaGreatDoorZ1
import Derived.Test.YthbmfbnnemgbpaaGreatDoorZ4
import Derived.Test.YthbmfbnnemgbpaaGreatDoorZ6
import Derived.Lib.Bytealg
import Derived.Lib.IndexLaws
import Derived.Test.YthbmfbnnemgbpaaGreatDoorZ7
namespace Go.Proofs.YthbmfbnnemgbpaaGreatDoor
open Go Go.RowKit Go.Deep Go.Maps Go.BigFrame
instance (w : World) : Inhabited (Up w) := ⟨⟨w, Below.refl _ _⟩⟩
def stepA (th kind id to' cat : Int) (d : ByteArray) (bl : Int) (nl : Nat) (fl gl : Nat → Int) (bc : Int) (nc : Nat) (fc gc : Nat → Int) : ByteArray :=
 if stepOk th kind id to' cat d bl nl fl gl bc nc fc gc = true then stepT (decB th) (decB kind) (decB id) (decB to') (decB cat) ⟨(txt bl (catsTo fl gl nl)).toArray⟩ ⟨(txt bc (catsTo fc gc nc)).toArray⟩ d else ⟨#[]⟩
theorem ret_str {a b : ByteArray} (h : a = b) : Ending.returned (.string a) = .returned (.string b) := by rw [h]
theorem dec16 (x : Int) (w : World) (h0 : 0 ≤ x) (h1 : x ≤ 9999) : Calls Tryz.prog 22 #[.int .i64 x] w fun e w' => e = .returned (.string (decB x)) ∧ Below w.heap.size w w' := by
 have := l1Dec_any x.toNat w (by omega)
 rw [show ((x.toNat : Nat) : Int) = x by omega] at this
 exact this
set_option maxRecDepth 100000 in
set_option maxHeartbeats 4000000 in
theorem specStepText_any (th kind id to' cat : Int) (d : ByteArray) (bl : Int) (al : Option Addr) (nl kl : Nat) (fl gl : Nat → Int) (bc : Int) (ac : Option Addr) (nc kc : Nat) (fc gc : Nat → Int) (w : World) (hd : d.size ≤ maxLen) (hnl : nl ≤ maxLen) (hnc : nc ≤ maxLen) (hcl : CatsAt w al nl fl gl) (hcc : CatsAt w ac nc fc gc) :
 Calls Tryz.prog 8 #[.agg #[.int .i64 th, .int .i64 kind, .int .i64 id, .int .i64 to', .int .i64 cat, .string d, .int .i64 bl, .slice al nl kl, .int .i64 bc, .slice ac nc kc]] w fun e w' => e = .returned (.string (stepA th kind id to' cat d bl nl fl gl bc nc fc gc)) ∧ Below w.heap.size w w' := by
 have L0 := (Below.refl _ w).alloc (Nat.le_refl _) (.cells #[.int .i64 th, .int .i64 kind, .int .i64 id, .int .i64 to', .int .i64 cat, .string d, .int .i64 bl, .slice al nl kl, .int .i64 bc, .slice ac nc kc] 28)
 have A0 := Blk.new w (.cells #[.int .i64 th, .int .i64 kind, .int .i64 id, .int .i64 to', .int .i64 cat, .string d, .int .i64 bl, .slice al nl kl, .int .i64 bc, .slice ac nc kc] 28)
 have P15 := hid (specStep_any th kind id to' cat d bl al nl kl fl gl bc ac nc kc fc gc _ hd hnl hnc (hcl.below L0) (hcc.below L0))
 cases ok : stepOk th kind id to' cat d bl nl fl gl bc nc fc gc with
 | false =>
  have E : Hid (stepA th kind id to' cat d bl nl fl gl bc nc fc gc = ⟨#[]⟩) := by show _ = _; rw [stepA, if_neg (by rw [ok]; decide)]
  rw [ok] at P15
  obtain ⟨c0, c1, c2, c3, c4, c5, c6, c7, c8, c9⟩ := A0.ten
  clear ok hcl hcc
  go_enter Tryz.func8, Tryz.ntmps8
  go_wp2_with (go_at_call 21; refine P15.out.mono ?_; rintro e w1 ⟨rfl, h1⟩)
  go_ret
  exact ⟨ret_str E.out.symm, then_ L0 h1⟩
 | true =>
  have E : Hid (stepA th kind id to' cat d bl nl fl gl bc nc fc gc = stepT (decB th) (decB kind) (decB id) (decB to') (decB cat) ⟨(txt bl (catsTo fl gl nl)).toArray⟩ ⟨(txt bc (catsTo fc gc nc)).toArray⟩ d) := by show _ = _; rw [stepA, if_pos ok]
  rw [ok] at P15
  obtain ⟨⟨t0, t1⟩, ⟨k0, k1⟩, ⟨i0, i1⟩, ⟨o0, o1⟩, ⟨g0, g1⟩, hd40, hl, hc⟩ := step_is th kind id to' cat d bl nl fl gl bc nc fc gc ok
  obtain ⟨sl, ln, lb, lf, lg⟩ := labB_size hl
  obtain ⟨sc, cn, cb, cf, cg⟩ := labB_size hc
  have PL : Hid (∀ W, Below w.heap.size w W → Calls Tryz.prog 23 #[.agg #[.int .i64 bl, .slice al nl kl]] W fun e w' => e = .returned (.string ⟨(txt bl (catsTo fl gl nl)).toArray⟩) ∧ Below W.heap.size W w') := fun W hW => l1Text_any bl al nl kl fl gl W ln (hcl.below hW) lb lf lg
  have PC : Hid (∀ W, Below w.heap.size w W → Calls Tryz.prog 23 #[.agg #[.int .i64 bc, .slice ac nc kc]] W fun e w' => e = .returned (.string ⟨(txt bc (catsTo fc gc nc)).toArray⟩) ∧ Below W.heap.size W w') := fun W hW => l1Text_any bc ac nc kc fc gc W cn (hcc.below hW) cb cf cg
  have D := hid (fun x h0 h1 W => dec16 x W h0 h1)
  have s1 := decB_size th t1
  have s2 := decB_size kind k1
  have s3 := decB_size id i1
  have s4 := decB_size to' o1
  have s5 := decB_size cat g1
  clear ok hcl hcc hl hc ln lb lf lg cn cb cf cg
  generalize (⟨(txt bl (catsTo fl gl nl)).toArray⟩ : ByteArray) = X6 at *
  generalize (⟨(txt bc (catsTo fc gc nc)).toArray⟩ : ByteArray) = X7 at *
  have r1 : ¬ 9223372036854775807 < (decB th).size + (⟨#[32]⟩ : ByteArray).size := by (try simp only [ByteArray.size_append]); have : (⟨#[32]⟩ : ByteArray).size = 1 := rfl; omega
  have r2 : ¬ 9223372036854775807 < ((decB th) ++ ⟨#[32]⟩).size + (decB kind).size := by (try simp only [ByteArray.size_append]); have : (⟨#[32]⟩ : ByteArray).size = 1 := rfl; omega
  have r3 : ¬ 9223372036854775807 < ((decB th) ++ ⟨#[32]⟩ ++ (decB kind)).size + (⟨#[32]⟩ : ByteArray).size := by (try simp only [ByteArray.size_append]); have : (⟨#[32]⟩ : ByteArray).size = 1 := rfl; omega
  have r4 : ¬ 9223372036854775807 < ((decB th) ++ ⟨#[32]⟩ ++ (decB kind) ++ ⟨#[32]⟩).size + (decB id).size := by (try simp only [ByteArray.size_append]); have : (⟨#[32]⟩ : ByteArray).size = 1 := rfl; omega
  have r5 : ¬ 9223372036854775807 < ((decB th) ++ ⟨#[32]⟩ ++ (decB kind) ++ ⟨#[32]⟩ ++ (decB id)).size + (⟨#[32]⟩ : ByteArray).size := by (try simp only [ByteArray.size_append]); have : (⟨#[32]⟩ : ByteArray).size = 1 := rfl; omega
  have r6 : ¬ 9223372036854775807 < ((decB th) ++ ⟨#[32]⟩ ++ (decB kind) ++ ⟨#[32]⟩ ++ (decB id) ++ ⟨#[32]⟩).size + (decB to').size := by (try simp only [ByteArray.size_append]); have : (⟨#[32]⟩ : ByteArray).size = 1 := rfl; omega
  have r7 : ¬ 9223372036854775807 < ((decB th) ++ ⟨#[32]⟩ ++ (decB kind) ++ ⟨#[32]⟩ ++ (decB id) ++ ⟨#[32]⟩ ++ (decB to')).size + (⟨#[32]⟩ : ByteArray).size := by (try simp only [ByteArray.size_append]); have : (⟨#[32]⟩ : ByteArray).size = 1 := rfl; omega
  have r8 : ¬ 9223372036854775807 < ((decB th) ++ ⟨#[32]⟩ ++ (decB kind) ++ ⟨#[32]⟩ ++ (decB id) ++ ⟨#[32]⟩ ++ (decB to') ++ ⟨#[32]⟩).size + (decB cat).size := by (try simp only [ByteArray.size_append]); have : (⟨#[32]⟩ : ByteArray).size = 1 := rfl; omega
  have r9 : ¬ 9223372036854775807 < ((decB th) ++ ⟨#[32]⟩ ++ (decB kind) ++ ⟨#[32]⟩ ++ (decB id) ++ ⟨#[32]⟩ ++ (decB to') ++ ⟨#[32]⟩ ++ (decB cat)).size + (⟨#[32]⟩ : ByteArray).size := by (try simp only [ByteArray.size_append]); have : (⟨#[32]⟩ : ByteArray).size = 1 := rfl; omega
  have r10 : ¬ 9223372036854775807 < ((decB th) ++ ⟨#[32]⟩ ++ (decB kind) ++ ⟨#[32]⟩ ++ (decB id) ++ ⟨#[32]⟩ ++ (decB to') ++ ⟨#[32]⟩ ++ (decB cat) ++ ⟨#[32]⟩).size + X6.size := by (try simp only [ByteArray.size_append]); have : (⟨#[32]⟩ : ByteArray).size = 1 := rfl; omega
  have r11 : ¬ 9223372036854775807 < ((decB th) ++ ⟨#[32]⟩ ++ (decB kind) ++ ⟨#[32]⟩ ++ (decB id) ++ ⟨#[32]⟩ ++ (decB to') ++ ⟨#[32]⟩ ++ (decB cat) ++ ⟨#[32]⟩ ++ X6).size + (⟨#[32]⟩ : ByteArray).size := by (try simp only [ByteArray.size_append]); have : (⟨#[32]⟩ : ByteArray).size = 1 := rfl; omega
  have r12 : ¬ 9223372036854775807 < ((decB th) ++ ⟨#[32]⟩ ++ (decB kind) ++ ⟨#[32]⟩ ++ (decB id) ++ ⟨#[32]⟩ ++ (decB to') ++ ⟨#[32]⟩ ++ (decB cat) ++ ⟨#[32]⟩ ++ X6 ++ ⟨#[32]⟩).size + X7.size := by (try simp only [ByteArray.size_append]); have : (⟨#[32]⟩ : ByteArray).size = 1 := rfl; omega
  have r13 : ¬ 9223372036854775807 < ((decB th) ++ ⟨#[32]⟩ ++ (decB kind) ++ ⟨#[32]⟩ ++ (decB id) ++ ⟨#[32]⟩ ++ (decB to') ++ ⟨#[32]⟩ ++ (decB cat) ++ ⟨#[32]⟩ ++ X6 ++ ⟨#[32]⟩ ++ X7).size + (⟨#[32]⟩ : ByteArray).size := by (try simp only [ByteArray.size_append]); have : (⟨#[32]⟩ : ByteArray).size = 1 := rfl; omega
  have r14 : ¬ 9223372036854775807 < ((decB th) ++ ⟨#[32]⟩ ++ (decB kind) ++ ⟨#[32]⟩ ++ (decB id) ++ ⟨#[32]⟩ ++ (decB to') ++ ⟨#[32]⟩ ++ (decB cat) ++ ⟨#[32]⟩ ++ X6 ++ ⟨#[32]⟩ ++ X7 ++ ⟨#[32]⟩).size + d.size := by (try simp only [ByteArray.size_append]); have : (⟨#[32]⟩ : ByteArray).size = 1 := rfl; omega
  have ET : Hid (stepT (decB th) (decB kind) (decB id) (decB to') (decB cat) X6 X7 d = (decB th) ++ ⟨#[32]⟩ ++ (decB kind) ++ ⟨#[32]⟩ ++ (decB id) ++ ⟨#[32]⟩ ++ (decB to') ++ ⟨#[32]⟩ ++ (decB cat) ++ ⟨#[32]⟩ ++ X6 ++ ⟨#[32]⟩ ++ X7 ++ ⟨#[32]⟩ ++ d) := rfl
  obtain ⟨c0, c1, c2, c3, c4, c5, c6, c7, c8, c9⟩ := A0.ten
  have HA := hid (fun W (hW : Below (w.alloc (.cells #[.int .i64 th, .int .i64 kind, .int .i64 id, .int .i64 to', .int .i64 cat, .string d, .int .i64 bl, .slice al nl kl, .int .i64 bc, .slice ac nc kc] 28)).heap.size (w.alloc (.cells #[.int .i64 th, .int .i64 kind, .int .i64 id, .int .i64 to', .int .i64 cat, .string d, .int .i64 bl, .slice al nl kl, .int .i64 bc, .slice ac nc kc] 28)) W) => (A0.below hW))
  have HL := hid L0
  clear A0 L0 s1 s2 s3 s4 s5 sl sc
  go_enter Tryz.func8, Tryz.ntmps8
  go_wp2_with (go_at_call 21; refine P15.out.mono ?_; rintro e w1 ⟨rfl, h1⟩)
  have zz := (HA.out _ h1).lt
  obtain ⟨e0, e1, e2, e3, e4, e5, e6, e7, e8, e9⟩ := (HA.out _ h1).ten
  have L1 := hid (then_ HL.out h1)
  have u0 := up_cell zz e0
  have u1 := up_cell zz e1
  have u2 := up_cell zz e2
  have u3 := up_cell zz e3
  have u4 := up_cell zz e4
  have u5 := up_cell zz e5
  have u6 := up_cell zz e6
  have u7 := up_cell zz e7
  have u8 := up_cell zz e8
  have u9 := up_cell zz e9
  clear c0 c1 c2 c3 c4 c5 c6 c7 c8 c9 e0 e1 e2 e3 e4 e5 e6 e7 e8 e9 HA
  refine wp_region_quiet_up (by kernel_rfl) (by kernel_rfl) ?_
  repeat (go_big_quiet_step (first | (go_at_call 22; exact up_of (D.out _ (by assumption) (by assumption) _))))
  go_big_quiet_step (first | (go_at_call 23; exact up_of (PL.out _ (then_ L1.out (Up.h _)))))
  repeat (go_big_quiet_step (fail))
  go_big_quiet_step (first | (go_at_call 23; exact up_of (PC.out _ (then_ L1.out (Up.h _)))))
  repeat (go_big_quiet_step (fail))
  refine wpQuiet_nil ?_
  rintro _ ⟨p, rfl⟩
  go_wp2
  go_ret
  exact ⟨ret_str (by rw [E.out, ET.out]), then_ L1.out p.h⟩
end Go.Proofs.YthbmfbnnemgbpaaGreatDoor
namespace Go.Proofs.YthbmfbnnemgbpaaGreatDoor
open Go.RowKit Go.Deep
theorem empty_size (s : ByteArray) : s.toList.isEmpty = decide (s.size = 0) := by
 rw [ByteArray.toList_eq]
 cases s with
 | mk a => cases a with
  | mk l => cases l <;> simp [ByteArray.size]
set_option maxRecDepth 100000 in
set_option maxHeartbeats 2000000 in
theorem readDecimal_any (s : ByteArray) (w : World) (hn : s.size ≤ maxLen) :
 Calls Tryz.prog 68 #[.string s] w fun e w' => e = .returned (numV s.data.toList) ∧ Below w.heap.size w w' := by
 unfold maxLen at hn
 have kc := fun (w : World) (s : ByteArray) => Lib.run_convert_string_bytes (P := Tryz.prog) w 9 22 5 s Tryz.underlying9 Tryz.underlying22 Tryz.underlying5
 have he := empty_size s
 by_cases h1 : 1 ≤ s.size
 rotate_left
 ·have h1' : s.size = 0 := by omega
  have e := okD_short h1
  rw [h1'] at he
  simp only [decide_true] at he
  go_enter Tryz.func68, Tryz.ntmps68
  go_wp2
  exact bodyPost_ret (v := numV s.data.toList) (by simp [results, Tryz.results68, go_sem, numV, numL, e]) rfl ⟨rfl, Below.refl _ _⟩
 have hn0 : ¬ s.size = 0 := by omega
 simp only [hn0, decide_false] at he
 by_cases h2 : s.size ≤ 10
 rotate_left
 ·have h2' : (10 : Int) < (s.size : Int) := by omega
  have e := okD_long h2
  go_enter Tryz.func68, Tryz.ntmps68
  go_wp2
  exact bodyPost_ret (v := numV s.data.toList) (by simp [results, Tryz.results68, go_sem, numV, numL, e]) rfl ⟨rfl, Below.refl _ _⟩
 have h2' : ¬ (10 : Int) < (s.size : Int) := by omega
 have hp : 0 < s.size := by omega
 have hp' : (0 : Int) < (s.size : Int) := by omega
 by_cases h3 : s.size ≤ 1
 ·have h3' : ¬ (1 : Int) < (s.size : Int) := by omega
  have hyes := okD_yes (s := s) h1 h2 (fun _ => .inr h3)
  go_enter Tryz.func68, Tryz.ntmps68
  go_wp2_with fail
  have hB := bytesWorld_below w 5 s
  have hcell : ∀ (j : Nat) (hj : j < s.size), (Lib.bytesWorld w 5 s).cell? ⟨w.heap.size, j, none⟩ = some (.int .u8 (s[j].toNat : Int)) := fun j hj => by
   rw [Lib.bytesWorld_cell w 5 s j hj]
   have e : s.data.toList.getD j 0 = s[j] := by
    rw [List.getD_eq_getElem?_getD, byte_at s j hj]
    rfl
   rw [e]
  generalize Lib.bytesWorld w 5 s = W at *
  generalize grownCap w s.size 0 5 = cp at *
  go_loop [4, 27] (fun n i => ∃ k : Nat, k ≤ s.size ∧ i = .int .i64 k ∧ n = .int .i64 (valL (s.data.toList.take k)) ∧ (∀ (j : Nat) (hj : j < s.size), j < k → digitB s[j] = true)) (fun _ i => s.size - (intOf i).toNat)
  case atStart => exact ⟨0, Nat.zero_le _, rfl, rfl, fun j _ hj => by omega⟩
  case round =>
   obtain ⟨k, hk, rfl, rfl, hall⟩ := hrel
   have hv := take_lt s k hk h2 hall
   have HV : Hid (k < s.size → ∀ h : k < s.size, digitB s[k] = true → (valL (s.data.toList.take (k + 1)) : Int) = (valL (s.data.toList.take k) : Int) * 10 + ((s[k].toNat : Int) - 48)) := fun _ h hd => take_val s k h hd
   have HE : Hid (k = s.size → s.data.toList.take k = s.data.toList) := fun e => by rw [e]; exact List.take_of_length_le (by simp)
   have HA : Hid (∀ (j : Nat) (hj : j < s.size), j < k → digitB s[j] = true) := hall
   clear hall
   generalize hg : valL (s.data.toList.take k) = v at *
   have HG : Hid (valL (s.data.toList.take k) = v) := hg
   clear hg
   by_cases hlt : k < s.size
   ·have hki : (k : Int) < (s.size : Int) := by omega
    have hc := hcell k hlt
    clear hcell
    by_cases d1 : (s[k].toNat : Int) < 48
    ·go_wp2
     exact bodyPost_ret (v := numV s.data.toList) (by simp [results, Tryz.results68, go_sem, numV, numL, okD_digit hlt (digit_lo d1)]) rfl ⟨rfl, hB⟩
    ·by_cases d2 : 57 < (s[k].toNat : Int)
     ·go_wp2
      exact bodyPost_ret (v := numV s.data.toList) (by simp [results, Tryz.results68, go_sem, numV, numL, okD_digit hlt (digit_hi d2)]) rfl ⟨rfl, hB⟩
     ·have hd := digit_yes d1 d2
      have hb256 : (s[k].toNat : Int) < 256 := by have := s[k].toNat_lt; omega
      go_wp2
      go_round
      case rel =>
       refine ⟨k + 1, by omega, by go_num, ?_, fun j hj hjk => ?_⟩
       ·rw [HV.out hlt hlt hd]
       ·by_cases e : j = k
        ·subst e; exact hd
        ·exact HA.out j hj (by omega)
      case measure => simp [intOf]; omega
   ·have hki : ¬ (k : Int) < (s.size : Int) := by omega
    have ek : k = s.size := by omega
    have e := hyes (fun j hj => HA.out j hj (by omega))
    have e2 := HE.out ek
    have e3 : valL s.data.toList = v := by rw [← e2]; exact HG.out
    clear hyes HA HE HG HV hcell
    go_wp2
    exact bodyPost_ret (v := numV s.data.toList) (by simp [results, Tryz.results68, go_sem, numV, numL, e, e3]) rfl ⟨rfl, hB⟩
 ·have h3' : (1 : Int) < (s.size : Int) := by omega
  by_cases hz : (s[0].toNat : Int) = 48
  ·have e := okD_zero hp (byte_eq (c := 48) hz) h3
   go_enter Tryz.func68, Tryz.ntmps68
   go_wp2
   exact bodyPost_ret (v := numV s.data.toList) (by simp [results, Tryz.results68, go_sem, numV, numL, e]) rfl ⟨rfl, Below.refl _ _⟩
  ·have hyes := okD_yes (s := s) h1 h2 (fun _ => .inl (byte_ne (c := 48) hz))
   go_enter Tryz.func68, Tryz.ntmps68
   go_wp2_with fail
   have hB := bytesWorld_below w 5 s
   have hcell : ∀ (j : Nat) (hj : j < s.size), (Lib.bytesWorld w 5 s).cell? ⟨w.heap.size, j, none⟩ = some (.int .u8 (s[j].toNat : Int)) := fun j hj => by
    rw [Lib.bytesWorld_cell w 5 s j hj]
    have e : s.data.toList.getD j 0 = s[j] := by
     rw [List.getD_eq_getElem?_getD, byte_at s j hj]
     rfl
    rw [e]
   generalize Lib.bytesWorld w 5 s = W at *
   generalize grownCap w s.size 0 5 = cp at *
   go_loop [4, 27] (fun n i => ∃ k : Nat, k ≤ s.size ∧ i = .int .i64 k ∧ n = .int .i64 (valL (s.data.toList.take k)) ∧ (∀ (j : Nat) (hj : j < s.size), j < k → digitB s[j] = true)) (fun _ i => s.size - (intOf i).toNat)
   case atStart => exact ⟨0, Nat.zero_le _, rfl, rfl, fun j _ hj => by omega⟩
   case round =>
    obtain ⟨k, hk, rfl, rfl, hall⟩ := hrel
    have hv := take_lt s k hk h2 hall
    have HV : Hid (k < s.size → ∀ h : k < s.size, digitB s[k] = true → (valL (s.data.toList.take (k + 1)) : Int) = (valL (s.data.toList.take k) : Int) * 10 + ((s[k].toNat : Int) - 48)) := fun _ h hd => take_val s k h hd
    have HE : Hid (k = s.size → s.data.toList.take k = s.data.toList) := fun e => by rw [e]; exact List.take_of_length_le (by simp)
    have HA : Hid (∀ (j : Nat) (hj : j < s.size), j < k → digitB s[j] = true) := hall
    clear hall
    generalize hg : valL (s.data.toList.take k) = v at *
    have HG : Hid (valL (s.data.toList.take k) = v) := hg
    clear hg
    by_cases hlt : k < s.size
    ·have hki : (k : Int) < (s.size : Int) := by omega
     have hc := hcell k hlt
     clear hcell
     by_cases d1 : (s[k].toNat : Int) < 48
     ·go_wp2
      exact bodyPost_ret (v := numV s.data.toList) (by simp [results, Tryz.results68, go_sem, numV, numL, okD_digit hlt (digit_lo d1)]) rfl ⟨rfl, hB⟩
     ·by_cases d2 : 57 < (s[k].toNat : Int)
      ·go_wp2
       exact bodyPost_ret (v := numV s.data.toList) (by simp [results, Tryz.results68, go_sem, numV, numL, okD_digit hlt (digit_hi d2)]) rfl ⟨rfl, hB⟩
      ·have hd := digit_yes d1 d2
       have hb256 : (s[k].toNat : Int) < 256 := by have := s[k].toNat_lt; omega
       go_wp2
       go_round
       case rel =>
        refine ⟨k + 1, by omega, by go_num, ?_, fun j hj hjk => ?_⟩
        ·rw [HV.out hlt hlt hd]
        ·by_cases e : j = k
         ·subst e; exact hd
         ·exact HA.out j hj (by omega)
       case measure => simp [intOf]; omega
    ·have hki : ¬ (k : Int) < (s.size : Int) := by omega
     have ek : k = s.size := by omega
     have e := hyes (fun j hj => HA.out j hj (by omega))
     have e2 := HE.out ek
     have e3 : valL s.data.toList = v := by rw [← e2]; exact HG.out
     clear hyes HA HE HG HV hcell
     go_wp2
     exact bodyPost_ret (v := numV s.data.toList) (by simp [results, Tryz.results68, go_sem, numV, numL, e, e3]) rfl ⟨rfl, hB⟩
end Go.Proofs.YthbmfbnnemgbpaaGreatDoor
namespace Go.Proofs.YthbmfbnnemgbpaaGreatDoor
open Go.RowKit Go.Deep
set_option maxRecDepth 100000 in
set_option maxHeartbeats 1000000 in
theorem indexByte_any (s : ByteArray) (c : UInt8) (w : World) :
 Calls Tryz.prog 113 #[.string s, .int .u8 c.toNat] w fun e w' => e = .returned (.int .i64 (Lib.indexByte s.data.toList c)) ∧ w' = w := by
 go_enter Tryz.func113, Tryz.ntmps113
 go_wp2_with fail
 rw [run_callFunc_extern Tryz.func117 (by kernel_rfl) (by kernel_rfl) (by kernel_rfl) (e := Extern.BytealgIndexByte.indexByte) (by kernel_rfl), Lib.run_indexByteString]
 simp only [Result.andThen]
 rw [Oper.upon_value]
 go_wp2
 go_ret
 exact ⟨rfl, rfl⟩
set_option maxRecDepth 100000 in
set_option maxHeartbeats 1000000 in
theorem index_any (s : ByteArray) (c : UInt8) (w : World) :
 Calls Tryz.prog 110 #[.string s, .string ⟨#[c]⟩] w fun e w' => e = .returned (.int .i64 (Lib.indexByte s.data.toList c)) ∧ w' = w := by
 cases hb : ([c] == s.toList) with
 | true =>
  have e1 : s.data.toList = [c] := by
   have : [c] = s.toList := by simpa using hb
   rw [← ByteArray.toList_eq, ← this]
  go_enter Tryz.func110, Tryz.ntmps110
  go_wp2
  go_ret
  rw [e1]
  exact ⟨by simp [Lib.indexByte], rfl⟩
 | false =>
  go_enter Tryz.func110, Tryz.ntmps110
  go_wp2_with (go_at_call 113; refine (indexByte_any s c w).mono ?_; rintro e w' ⟨rfl, rfl⟩)
  go_ret
  exact ⟨rfl, rfl⟩
theorem indexByte_cut (L : List UInt8) (c : UInt8) : (Lib.indexByte L c = -1 ∧ cutL c L = (L, [], false)) ∨ (∃ k : Nat, Lib.indexByte L c = k ∧ k < L.length ∧ cutL c L = (L.take k, L.drop (k + 1), true)) := by
 have hge := Lib.indexByte_ge L c
 by_cases h : Lib.indexByte L c = -1
 ·exact .inl ⟨h, cutL_miss c L (fun j _ => Lib.indexByte_none h j)⟩
 ·obtain ⟨k, hk⟩ : ∃ k : Nat, Lib.indexByte L c = k := ⟨(Lib.indexByte L c).toNat, by omega⟩
  obtain ⟨h1, h2⟩ := Lib.indexByte_some hk
  have hlt : k < L.length := by
   by_cases e : k < L.length
   ·exact e
   ·rw [List.getElem?_eq_none (by omega)] at h1; simp at h1
  exact .inr ⟨k, hk, hlt, cutL_hit c k L h2 h1⟩
set_option maxRecDepth 100000 in
set_option maxHeartbeats 1000000 in
theorem cutLite_any (s : ByteArray) (c : UInt8) (w : World) (hn : s.size ≤ maxLen) :
 Calls Tryz.prog 103 #[.string s, .string ⟨#[c]⟩] w fun e w' => e = .returned (cutV c s.data.toList) ∧ Below w.heap.size w w' := by
 unfold maxLen at hn
 have HI := index_any s c w
 rcases indexByte_cut s.data.toList c with ⟨hi, hc⟩ | ⟨k, hi, hk, hc⟩
 ·rw [hi] at HI
  go_enter Tryz.func103, Tryz.ntmps103
  go_wp2_with (go_at_call 110; refine HI.mono ?_; rintro e w' ⟨rfl, rfl⟩)
  exact bodyPost_ret (v := cutV c s.data.toList) (by simp [results, Tryz.results103, go_sem, cutV, hc]) rfl ⟨rfl, Below.refl _ _⟩
 ·rw [hi] at HI
  have hk' : k < s.size := by simpa using hk
  have hki : (k : Int) < (s.size : Int) := by omega
  go_enter Tryz.func103, Tryz.ntmps103
  go_wp2_with fail
  refine HI.mono ?_
  rintro e w' ⟨rfl, rfl⟩
  clear HI
  go_wp2_with fail
  go_quiet (fail)
  go_wp2
  exact bodyPost_ret (v := cutV c s.data.toList) (by simp [results, Tryz.results103, go_sem, cutV, hc, ext_take, ext_drop]) rfl ⟨rfl, below_drewN (Below.refl _ _) _⟩
set_option maxRecDepth 100000 in
set_option maxHeartbeats 1000000 in
theorem cut_any (s : ByteArray) (c : UInt8) (w : World) (hn : s.size ≤ maxLen) :
 Calls Tryz.prog 84 #[.string s, .string ⟨#[c]⟩] w fun e w' => e = .returned (cutV c s.data.toList) ∧ Below w.heap.size w w' := by
 go_enter Tryz.func84, Tryz.ntmps84
 go_wp2_with fail
 refine (cutLite_any s c w hn).mono ?_
 rintro e w' ⟨rfl, hb⟩
 unfold cutV
 go_wp2
 exact bodyPost_ret (v := cutV c s.data.toList) (by simp [results, Tryz.results84, go_sem, cutV]) rfl ⟨rfl, hb⟩
def catV (p : List UInt8) : Value := .tuple #[.agg #[.int .i64 (if catOkL p = true then (catL p).1 else 0), .int .i64 (if catOkL p = true then (catL p).2 else 0)], .bool (catOkL p)]
set_option maxRecDepth 100000 in
set_option maxHeartbeats 1000000 in
theorem readCat_any (s : ByteArray) (w : World) (hn : s.size ≤ maxLen) :
 Calls Tryz.prog 85 #[.string s] w fun e w' => e = .returned (catV s.data.toList) ∧ Below w.heap.size w w' := by
 have L0 := (Below.refl _ w).alloc (Nat.le_refl _) (.cells #[.int .i64 0, .int .i64 0] 63)
 have A0 := Blk.new w (.cells #[.int .i64 0, .int .i64 0] 63)
 have hn' : s.data.toList.length ≤ maxLen := by simpa using hn
 have s1 : ∀ v, (cutL 58 s.data.toList).1 = v → (⟨v.toArray⟩ : ByteArray).size ≤ maxLen := fun v hv => by
  have := cutL_len1 58 s.data.toList
  subst hv
  simp [ByteArray.size]; omega
 have s2 : ∀ v, (cutL 58 s.data.toList).2.1 = v → (⟨v.toArray⟩ : ByteArray).size ≤ maxLen := fun v hv => by
  have := cutL_len2 58 s.data.toList
  subst hv
  simp [ByteArray.size]; omega
 go_enter Tryz.func85, Tryz.ntmps85
 go_wp2_with fail
 refine (cut_any s 58 _ hn).mono ?_
 rintro e w1 ⟨rfl, hb1⟩
 have E1 : Below w.heap.size w w1 := L0.trans (hb1.mono (by simp))
 have A1 := A0.below hb1
 unfold cutV
 go_wp2_with fail
 refine (readDecimal_any _ _ (s1 _ rfl)).mono ?_
 rintro e w2 ⟨rfl, hb2⟩
 have E2 : Below w.heap.size w w2 := E1.trans (hb2.mono E1.size)
 have A2 := A1.below hb2
 unfold numV
 go_wp2_with fail
 refine (readDecimal_any _ _ (s2 _ rfl)).mono ?_
 rintro e w3 ⟨rfl, hb3⟩
 have E3 : Below w.heap.size w w3 := E2.trans (hb3.mono E2.size)
 have A3 := A2.below hb3
 unfold numV
 obtain ⟨x1, x2⟩ := A3.two
 have f1 := A3.frozen2 0
 have f2 := A3.frozen2 1
 clear A0 A1 A2 hb1 hb2 hb3 E1 E2 L0
 have hv : catV s.data.toList = .tuple #[.agg #[.int .i64 (if (okD (cutL 58 s.data.toList).1 && okD (cutL 58 s.data.toList).2.1) = true then numL (cutL 58 s.data.toList).1 else 0), .int .i64 (if (okD (cutL 58 s.data.toList).1 && okD (cutL 58 s.data.toList).2.1) = true then numL (cutL 58 s.data.toList).2.1 else 0)], .bool (okD (cutL 58 s.data.toList).1 && okD (cutL 58 s.data.toList).2.1)] := rfl
 generalize okD (cutL 58 s.data.toList).1 = o1 at *
 generalize okD (cutL 58 s.data.toList).2.1 = o2 at *
 generalize numL (cutL 58 s.data.toList).1 = n1 at *
 generalize numL (cutL 58 s.data.toList).2.1 = n2 at *
 cases o1 with
 | false =>
  go_wp2
  exact bodyPost_ret (v := catV s.data.toList) (by simp [results, Tryz.results85, go_sem, hv, x1, x2]) rfl ⟨rfl, (E3.setCell (Nat.le_refl _) _).setCell (Nat.le_refl _) _⟩
 | true =>
  cases o2 with
  | false =>
   go_wp2
   exact bodyPost_ret (v := catV s.data.toList) (by simp [results, Tryz.results85, go_sem, hv, x1, x2]) rfl ⟨rfl, (E3.setCell (Nat.le_refl _) _).setCell (Nat.le_refl _) _⟩
  | true =>
   go_wp2
   exact bodyPost_ret (v := catV s.data.toList) (by simp [results, Tryz.results85, go_sem, hv, x1, x2]) rfl ⟨rfl, (E3.setCell (Nat.le_refl _) _).setCell (Nat.le_refl _) _⟩
end Go.Proofs.YthbmfbnnemgbpaaGreatDoor
namespace Go.Proofs.YthbmfbnnemgbpaaGreatDoor
open Go.RowKit Go.Deep Go.Maps
set_option maxRecDepth 100000 in
set_option maxHeartbeats 4000000 in
theorem implRead_any (s : ByteArray) (w : World) (hn : s.size ≤ 1048576) :
 Calls Tryz.prog 70 #[.string s] w (RPost (readL s.data.toList) w) := by
 have hsl : s.data.toList.length ≤ 1048576 := by simpa using hn
 have L0 := (Below.refl _ w).alloc (Nat.le_refl _) (.cells #[.int .i64 0, .slice none 0 0] 26)
 have Z0 := Blk.new w (.cells #[.int .i64 0, .slice none 0 0] 26)
 have HR : Hid (readL s.data.toList = if okD (cutL 44 s.data.toList).1 = true then fin (numL (cutL 44 s.data.toList).1) (gather 12 (cutL 44 s.data.toList).2.1 (cutL 44 s.data.toList).2.2 []) else (0, [], false)) := rfl
 have hl1 := cutL_len1 44 s.data.toList
 have hl2 := cutL_len2 44 s.data.toList
 generalize readL s.data.toList = res at *
 go_enter Tryz.func70, Tryz.ntmps70
 go_wp2_with fail
 refine (cut_any s 44 _ (by unfold maxLen; omega)).mono ?_
 rintro e w1 ⟨rfl, hb1⟩
 have L1 : Below w.heap.size w w1 := L0.trans (hb1.mono L0.size)
 have Z1 := Z0.below hb1
 unfold cutV
 generalize (cutL 44 s.data.toList).1 = one at *
 generalize (cutL 44 s.data.toList).2.1 = rest0 at *
 generalize (cutL 44 s.data.toList).2.2 = more0 at *
 clear L0 Z0 hb1
 go_wp2_with fail
 refine (readDecimal_any _ _ (by rw [size_of]; unfold maxLen; omega)).mono ?_
 rintro e w2 ⟨rfl, hb2⟩
 have L2 : Below w.heap.size w w2 := L1.trans (hb2.mono L1.size)
 have Z2 := Z1.below hb2
 unfold numV
 simp only at *
 generalize numL one = base at *
 cases ho : okD one with
 | false =>
  rw [ho] at HR
  obtain ⟨x1, x2⟩ := Z2.two
  have f1 := Z2.frozen2 0
  have f2 := Z2.frozen2 1
  go_wp2
  refine bodyPost_ret (v := .tuple #[.agg #[.int .i64 0, .slice none 0 0], .bool false]) (by simp [results, Tryz.results70, go_sem, x1, x2]) rfl (RPost.no (by rw [HR.out]; rfl) ((L2.setCell (Nat.le_refl _) _).setCell (Nat.le_refl _) _))
 | true =>
  rw [ho] at HR
  have HR' : Hid (res = fin base (gather 12 rest0 more0 [])) := HR
  clear HR ho
  have HG0 : ∃ G, gather 12 rest0 more0 [] = G := ⟨_, rfl⟩
  obtain ⟨G, hG⟩ := HG0
  rw [hG] at HR'
  have HG : Hid (gather 12 rest0 more0 [] = G) := hG
  clear hG
  have P3 := Blk.new w2 (.cells #[.int .i64 base, .slice none 0 0] 26)
  have L3 : Below w.heap.size w (w2.alloc (.cells #[.int .i64 base, .slice none 0 0] 26)) := L2.alloc L2.size _
  have Z3 := Z2.alloc (.cells #[.int .i64 base, .slice none 0 0] 26)
  have sP : w.heap.size < w2.heap.size := Z2.lt
  go_wp2
  go_loopw [5, 6] (fun r m wr => ∃ (R : List UInt8) (mo : Bool) (l : List (Int × Int)) (v : Value), r = .string ⟨R.toArray⟩ ∧ m = .bool mo ∧ Hid (gather (12 - l.length) R mo l = G) ∧ l.length ≤ 12 ∧ R.length ≤ 1048576 ∧ Blk wr w2.heap.size (.cells #[.int .i64 base, v] 26) ∧ OwnList wr (w2.heap.size + 1) v l ∧ Blk wr w.heap.size (.cells #[.int .i64 0, .slice none 0 0] 26) ∧ Below w.heap.size w wr) (fun r m _ => strN r + boolN m)
  case atStart => exact ⟨rest0, more0, [], _, rfl, rfl, HG, by simp, by omega, P3, OwnList.nil _ _, Z3, L3⟩
  case round =>
   obtain ⟨R, mo, l, v, rfl, rfl, HGr, hl, hR, P, O, Z, Lr⟩ := hrel
   clear HG P3 L3 Z3 L2 Z2 hb2 L1 Z1
   obtain ⟨p1, p2⟩ := P.two
   obtain ⟨va, vc, rfl⟩ := OwnCats.shape O
   cases mo with
   | false =>
    rw [gather_false] at HGr
    go_wp2_with fail
    refine (implOk_any _ _ _ _ (fstAt l) (sndAt l) _ (by unfold maxLen; omega) (OwnCats.cats O)).mono ?_
    rintro e w4 ⟨rfl, hb4⟩
    have Z4 := Z.below hb4
    have P4 := P.below hb4
    have O4 := O.below hb4
    have L4 : Below w.heap.size w w4 := Lr.trans (hb4.mono Lr.size)
    clear p1 p2 P O Z Lr hb4
    obtain ⟨p1, p2⟩ := P4.two
    obtain ⟨z1, z2⟩ := Z4.two
    have f1 := Z4.frozen2 0
    have f2 := Z4.frozen2 1
    cases hok : labOk base l.length (fstAt l) (sndAt l) with
    | false =>
     have er : Hid (res = (0, [], false)) := (by rw [HR'.out, ← HGr.out]; simp [fin, hok] : res = (0, [], false))
     go_wp2
     exact bodyPost_ret (v := .tuple #[.agg #[.int .i64 0, .slice none 0 0], .bool false]) (by simp [results, Tryz.results70, go_sem, z1, z2]) rfl (RPost.no er.out ((L4.setCell (Nat.le_refl _) _).setCell (Nat.le_refl _) _))
    | true =>
     have er : Hid (res = (base, l, true)) := (by rw [HR'.out, ← HGr.out]; simp [fin, hok] : res = (base, l, true))
     go_wp2
     exact bodyPost_ret (v := .tuple #[.agg #[.int .i64 base, .slice va l.length vc], .bool true]) (by simp [results, Tryz.results70, go_sem, z1, z2]) rfl (RPost.yes er.out (((O4.set (by omega) _ _).set (by omega) _ _).low (by omega)) ((L4.setCell (Nat.le_refl _) _).setCell (Nat.le_refl _) _))
   | true =>
    go_wp2_with fail
    refine (cut_any _ 44 _ (by rw [size_of]; unfold maxLen; omega)).mono ?_
    rintro e w4 ⟨rfl, hb4⟩
    have Z4 := Z.below hb4
    have P4 := P.below hb4
    have O4 := O.below hb4
    have L4 : Below w.heap.size w w4 := Lr.trans (hb4.mono Lr.size)
    have hms := cut_measure R
    have hc1 := cutL_len1 44 R
    have hc2 := cutL_len2 44 R
    have HN := fun n => gather_next n R l
    have HBd := fun n => gather_bad n R l
    unfold cutV
    simp only at *
    generalize (cutL 44 R).1 = piece at *
    generalize (cutL 44 R).2.1 = R' at *
    generalize (cutL 44 R).2.2 = mo' at *
    clear p1 p2 P O Z Lr hb4
    go_wp2_with fail
    refine (readCat_any _ _ (by rw [size_of]; unfold maxLen; omega)).mono ?_
    rintro e w5 ⟨rfl, hb5⟩
    have Z5 := Z4.below hb5
    have P5 := P4.below hb5
    have O5 := O4.below hb5
    have L5 : Below w.heap.size w w5 := L4.trans (hb5.mono L4.size)
    clear P4 O4 Z4 L4 hb5
    unfold catV
    simp only at *
    cases hcat : catOkL piece with
    | false =>
     have er : Hid (res = (0, [], false)) := (by rw [HR'.out, ← HGr.out, HBd _ hcat]; rfl : res = (0, [], false))
     have Z6 := Z5.alloc (.cells #[.int .i64 0, .int .i64 0] 63)
     have L6 := L5.alloc L5.size (.cells #[.int .i64 0, .int .i64 0] 63)
     obtain ⟨z1, z2⟩ := Z6.two
     have f1 := Z6.frozen2 0
     have f2 := Z6.frozen2 1
     clear HN HBd
     go_wp2
     exact bodyPost_ret (v := .tuple #[.agg #[.int .i64 0, .slice none 0 0], .bool false]) (by simp [results, Tryz.results70, go_sem, z1, z2]) rfl (RPost.no er.out ((L6.setCell (Nat.le_refl _) _).setCell (Nat.le_refl _) _))
    | true =>
     rcases hxy : catL piece with ⟨x, y⟩
     simp only at *
     have Z6 := Z5.alloc (.cells #[.int .i64 x, .int .i64 y] 63)
     have P6 := P5.alloc (.cells #[.int .i64 x, .int .i64 y] 63)
     have L6 := L5.alloc L5.size (.cells #[.int .i64 x, .int .i64 y] 63)
     have C6 := Blk.new w5 (.cells #[.int .i64 x, .int .i64 y] 63)
     have O6 : OwnList _ _ _ l := OwnCats.alloc O5 (.cells #[.int .i64 x, .int .i64 y] 63)
     obtain ⟨p1, p2⟩ := P6.two
     obtain ⟨c1, c2⟩ := C6.two
     by_cases h12 : l.length = 12
     ·have er : Hid (res = (0, [], false)) := (by rw [HR'.out, ← HGr.out, h12]; rfl : res = (0, [], false))
      obtain ⟨z1, z2⟩ := Z6.two
      have f1 := Z6.frozen2 0
      have f2 := Z6.frozen2 1
      have h12' : (l.length : Int) = 12 := by omega
      clear HN HBd
      go_wp2
      exact bodyPost_ret (v := .tuple #[.agg #[.int .i64 0, .slice none 0 0], .bool false]) (by simp [results, Tryz.results70, go_sem, z1, z2]) rfl (RPost.no er.out ((L6.setCell (Nat.le_refl _) _).setCell (Nat.le_refl _) _))
     ·have h12' : ¬ (l.length : Int) = 12 := by omega
      have HG2 : Hid (gather (12 - (l ++ [(x, y)]).length) R' mo' (l ++ [(x, y)]) = G) := by
       show _ = _
       rw [← HGr.out]
       obtain ⟨q, hq⟩ : ∃ q, 12 - l.length = q + 1 := ⟨12 - l.length - 1, by omega⟩
       rw [hq, HN q hcat, hxy]
       congr 1
       rw [List.length_append]
       simp
       omega
      clear HN HBd HGr
      have h12'' : ((l.length : Int) == 12) = false := by simpa using h12'
      have s5 : w2.heap.size + 1 ≤ w5.heap.size := P5.lt
      have HNE : Hid (some w2.heap.size ≠ (Value.slice va l.length vc).ownBlock) := fun e => by have := (World.ownsRow.lt O5 _ e.symm).1; omega
      have HO : Hid (OwnList (w5.alloc (.cells #[.int .i64 x, .int .i64 y] 63)) (w2.heap.size + 1) (.slice va l.length vc) l) := O6
      have hw4 : w.heap.size < w2.heap.size := sP
      have pf0 := P6.frozen2 1
      have OC : Hid (CatsAt ((w5.alloc (.cells #[.int .i64 x, .int .i64 y] 63)).alloc (.cells #[.int .i64 x, .int .i64 y] 63)) (some ⟨w5.heap.size + 1, 0, none⟩) 1 (fun _ => x) (fun _ => y)) := by
       have sz : (w5.alloc (.cells #[.int .i64 x, .int .i64 y] 63)).heap.size = w5.heap.size + 1 := by simp
       have t := one_cat (w5.alloc (.cells #[.int .i64 x, .int .i64 y] 63)) x y
       rw [sz] at t
       exact t
      go_wp2_with (at_builtin; go_loud (refine wpList_append_cats _ rfl _ _ rfl (w2.heap.size + 1) _ _ _ _ rfl (OwnCats.alloc HO.out _) _ 1 1 (fun _ => x) (fun _ => y) rfl OC.out (by omega) (by simp; omega) ?_; intro a' c' w' hown' hgrow' hat'; have hZ' := (P6.alloc (.cells #[.int .i64 x, .int .i64 y] 63)).grown hgrow' (HNE.out); obtain ⟨q1, q2⟩ := hZ'.two; have pf := hZ'.frozen2 1))
      have hgN : Below w.heap.size w w' := (L6.alloc (by simp; omega) _).grown hgrow' (by simp; omega) (fun j e => by have := (World.ownsRow.lt HO.out j e).1; omega)
      have Z7 := (Z6.alloc (.cells #[.int .i64 x, .int .i64 y] 63)).grown hgrow' (fun e => by have := (World.ownsRow.lt HO.out _ e.symm).1; omega)
      go_roundw
      case rel =>
       refine ⟨R', mo', l ++ [(x, y)], _, rfl, rfl, HG2, by rw [List.length_append]; simp; omega, by omega, hZ'.set1 _, (OwnList.snoc hown').set (by omega) _ _, Z7.grown (grown_set (grown_refl w' w2.heap.size) 1 _) (by simp; omega), hgN.setCell (by dsimp only; omega) _⟩
      case measure =>
       have e1 : strN (.string ⟨R'.toArray⟩) = R'.length := size_of R'
       have e2 : strN (.string ⟨R.toArray⟩) = R.length := size_of R
       have e3 : boolN (.bool mo') = if mo' = true then 1 else 0 := by cases mo' <;> rfl
       rw [e1, e2, e3]
       exact hms
end Go.Proofs.YthbmfbnnemgbpaaGreatDoor
