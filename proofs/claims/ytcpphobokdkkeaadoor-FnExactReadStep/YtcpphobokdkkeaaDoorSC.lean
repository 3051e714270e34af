/- StepText of the model. -/
import Derived.Test.YtcpphobokdkkeaaDoorSB
import Derived.BigQuiet
namespace Go.Proofs.YtcpphobokdkkeaaDoor
open Go Go.RowKit Go.Deep Go.Maps Go.BigFrame

/-- a world above w -/
structure Up (w : World) where
  W : World
  h : Below w.heap.size w W
instance (w : World) : Inhabited (Up w) := ⟨⟨w, Below.refl _ _⟩⟩
theorem wp_region_quiet_up {id : Nat} {Q : Exit → Act → World → Prop} {a : Act} {w : World} {l : List Oper} (hm : Tryd.prog.follows .mixedOrders = true) (hB : Region.lexB .any l.toArray = true)
    (h : wpQuiet Tryd.prog l.toArray (fun w' => ∃ p : Up w, w' = p.W) (fun a' => ∀ w', (∃ p : Up w, w' = p.W) → Q .normal a' w') l a) : (Code.region id l.toArray true).wp Tryd.prog Q a w :=
  wp_region_quiet (C := fun w' => ∃ p : Up w, w' = p.W) hm hB ⟨⟨w.drew, (Below.refl _ _).drew⟩, rfl⟩ (by simpa using h)
theorem up_of {w : World} {p : Up w} {f : FuncId} {args : Array Value} {v : Value} (h : Calls Tryd.prog f args p.W fun e w' => e = .returned v ∧ Below p.W.heap.size p.W w') : Calls Tryd.prog f args p.W fun e w'' => e = .returned v ∧ ∃ q : Up w, w'' = q.W :=
  h.mono fun _ w' ⟨he, hb⟩ => ⟨he, ⟨w', then_ p.h hb⟩, rfl⟩
theorem up_cell {w : World} {b o : Nat} {v : Value} (hb : b < w.heap.size) (h : w.cell? ⟨b, o, none⟩ = some v) : ∀ p : Up w, p.W.cell? ⟨b, o, none⟩ = some v := fun p => (p.h.cell (p := ⟨b, o, none⟩) hb).trans h
/-- what StepText answers -/
def stepA (th kind id to' cat : Int) (d : ByteArray) (bl : Int) (nl : Nat) (fl gl : Nat → Int) (bc : Int) (nc : Nat) (fc gc : Nat → Int) : ByteArray :=
  if stepOk th kind id to' cat d bl nl fl gl bc nc fc gc = true then stepT (decB th) (decB kind) (decB id) (decB to') (decB cat) ⟨(txt bl (catsTo fl gl nl)).toArray⟩ ⟨(txt bc (catsTo fc gc nc)).toArray⟩ d else ⟨#[]⟩
theorem ret_str {a b : ByteArray} (h : a = b) : Ending.returned (.string a) = .returned (.string b) := by rw [h]
theorem dec16 (x : Int) (w : World) (h0 : 0 ≤ x) (h1 : x ≤ 9999) : Calls Tryd.prog 16 #[.int .i64 x] w fun e w' => e = .returned (.string (decB x)) ∧ Below w.heap.size w w' := by
  have := l1Dec_any x.toNat w (by omega)
  rw [show ((x.toNat : Nat) : Int) = x by omega] at this
  exact this

set_option maxRecDepth 100000 in
set_option maxHeartbeats 4000000 in
theorem specStepText_any (th kind id to' cat : Int) (d : ByteArray) (bl : Int) (al : Option Addr) (nl kl : Nat) (fl gl : Nat → Int) (bc : Int) (ac : Option Addr) (nc kc : Nat) (fc gc : Nat → Int) (w : World) (hd : d.size ≤ maxLen) (hnl : nl ≤ maxLen) (hnc : nc ≤ maxLen) (hcl : CatsAt w al nl fl gl) (hcc : CatsAt w ac nc fc gc) :
    Calls Tryd.prog 6 #[.agg #[.int .i64 th, .int .i64 kind, .int .i64 id, .int .i64 to', .int .i64 cat, .string d, .int .i64 bl, .slice al nl kl, .int .i64 bc, .slice ac nc kc]] w fun e w' => e = .returned (.string (stepA th kind id to' cat d bl nl fl gl bc nc fc gc)) ∧ Below w.heap.size w w' := by
  have L0 := (Below.refl _ w).alloc (Nat.le_refl _) (.cells #[.int .i64 th, .int .i64 kind, .int .i64 id, .int .i64 to', .int .i64 cat, .string d, .int .i64 bl, .slice al nl kl, .int .i64 bc, .slice ac nc kc] 33)
  have A0 := Blk.new w (.cells #[.int .i64 th, .int .i64 kind, .int .i64 id, .int .i64 to', .int .i64 cat, .string d, .int .i64 bl, .slice al nl kl, .int .i64 bc, .slice ac nc kc] 33)
  have P15 := hid (specStep_any th kind id to' cat d bl al nl kl fl gl bc ac nc kc fc gc _ hd hnl hnc (hcl.below L0) (hcc.below L0))
  cases ok : stepOk th kind id to' cat d bl nl fl gl bc nc fc gc with
  | false =>
    have E : Hid (stepA th kind id to' cat d bl nl fl gl bc nc fc gc = ⟨#[]⟩) := by show _ = _; rw [stepA, if_neg (by rw [ok]; decide)]
    rw [ok] at P15
    obtain ⟨c0, c1, c2, c3, c4, c5, c6, c7, c8, c9⟩ := A0.ten
    clear ok hcl hcc
    go_enter Tryd.func6, Tryd.ntmps6
    go_wp2_with (go_at_call 15; refine P15.out.mono ?_; rintro e w1 ⟨rfl, h1⟩)
    go_ret
    exact ⟨ret_str E.out.symm, then_ L0 h1⟩
  | true =>
    have E : Hid (stepA th kind id to' cat d bl nl fl gl bc nc fc gc = stepT (decB th) (decB kind) (decB id) (decB to') (decB cat) ⟨(txt bl (catsTo fl gl nl)).toArray⟩ ⟨(txt bc (catsTo fc gc nc)).toArray⟩ d) := by show _ = _; rw [stepA, if_pos ok]
    rw [ok] at P15
    obtain ⟨⟨t0, t1⟩, ⟨k0, k1⟩, ⟨i0, i1⟩, ⟨o0, o1⟩, ⟨g0, g1⟩, hd40, hl, hc⟩ := step_is th kind id to' cat d bl nl fl gl bc nc fc gc ok
    obtain ⟨sl, ln, lb, lf, lg⟩ := labB_size hl
    obtain ⟨sc, cn, cb, cf, cg⟩ := labB_size hc
    have PL : Hid (∀ W, Below w.heap.size w W → Calls Tryd.prog 17 #[.agg #[.int .i64 bl, .slice al nl kl]] W fun e w' => e = .returned (.string ⟨(txt bl (catsTo fl gl nl)).toArray⟩) ∧ Below W.heap.size W w') := fun W hW => l1Text_any bl al nl kl fl gl W ln (hcl.below hW) lb lf lg
    have PC : Hid (∀ W, Below w.heap.size w W → Calls Tryd.prog 17 #[.agg #[.int .i64 bc, .slice ac nc kc]] W fun e w' => e = .returned (.string ⟨(txt bc (catsTo fc gc nc)).toArray⟩) ∧ Below W.heap.size W w') := fun W hW => l1Text_any bc ac nc kc fc gc W cn (hcc.below hW) cb cf cg
    have D := hid (fun x h0 h1 W => dec16 x W h0 h1)
    have s1 := decB_size th t1
    have s2 := decB_size kind k1
    have s3 := decB_size id i1
    have s4 := decB_size to' o1
    have s5 := decB_size cat g1
    clear ok hcl hcc hl hc ln lb lf lg cn cb cf cg
    generalize (⟨(txt bl (catsTo fl gl nl)).toArray⟩ : ByteArray) = X6 at *
    generalize (⟨(txt bc (catsTo fc gc nc)).toArray⟩ : ByteArray) = X7 at *
    have r1 : ¬ 9223372036854775807 < (decB th).size + (⟨#[32]⟩ : ByteArray).size := by (try simp only [ByteArray.size_append]); have : (⟨#[32]⟩ : ByteArray).size = 1 := rfl; omega
    have r2 : ¬ 9223372036854775807 < ((decB th) ++ ⟨#[32]⟩).size + (decB kind).size := by (try simp only [ByteArray.size_append]); have : (⟨#[32]⟩ : ByteArray).size = 1 := rfl; omega
    have r3 : ¬ 9223372036854775807 < ((decB th) ++ ⟨#[32]⟩ ++ (decB kind)).size + (⟨#[32]⟩ : ByteArray).size := by (try simp only [ByteArray.size_append]); have : (⟨#[32]⟩ : ByteArray).size = 1 := rfl; omega
    have r4 : ¬ 9223372036854775807 < ((decB th) ++ ⟨#[32]⟩ ++ (decB kind) ++ ⟨#[32]⟩).size + (decB id).size := by (try simp only [ByteArray.size_append]); have : (⟨#[32]⟩ : ByteArray).size = 1 := rfl; omega
    have r5 : ¬ 9223372036854775807 < ((decB th) ++ ⟨#[32]⟩ ++ (decB kind) ++ ⟨#[32]⟩ ++ (decB id)).size + (⟨#[32]⟩ : ByteArray).size := by (try simp only [ByteArray.size_append]); have : (⟨#[32]⟩ : ByteArray).size = 1 := rfl; omega
    have r6 : ¬ 9223372036854775807 < ((decB th) ++ ⟨#[32]⟩ ++ (decB kind) ++ ⟨#[32]⟩ ++ (decB id) ++ ⟨#[32]⟩).size + (decB to').size := by (try simp only [ByteArray.size_append]); have : (⟨#[32]⟩ : ByteArray).size = 1 := rfl; omega
    have r7 : ¬ 9223372036854775807 < ((decB th) ++ ⟨#[32]⟩ ++ (decB kind) ++ ⟨#[32]⟩ ++ (decB id) ++ ⟨#[32]⟩ ++ (decB to')).size + (⟨#[32]⟩ : ByteArray).size := by (try simp only [ByteArray.size_append]); have : (⟨#[32]⟩ : ByteArray).size = 1 := rfl; omega
    have r8 : ¬ 9223372036854775807 < ((decB th) ++ ⟨#[32]⟩ ++ (decB kind) ++ ⟨#[32]⟩ ++ (decB id) ++ ⟨#[32]⟩ ++ (decB to') ++ ⟨#[32]⟩).size + (decB cat).size := by (try simp only [ByteArray.size_append]); have : (⟨#[32]⟩ : ByteArray).size = 1 := rfl; omega
    have r9 : ¬ 9223372036854775807 < ((decB th) ++ ⟨#[32]⟩ ++ (decB kind) ++ ⟨#[32]⟩ ++ (decB id) ++ ⟨#[32]⟩ ++ (decB to') ++ ⟨#[32]⟩ ++ (decB cat)).size + (⟨#[32]⟩ : ByteArray).size := by (try simp only [ByteArray.size_append]); have : (⟨#[32]⟩ : ByteArray).size = 1 := rfl; omega
    have r10 : ¬ 9223372036854775807 < ((decB th) ++ ⟨#[32]⟩ ++ (decB kind) ++ ⟨#[32]⟩ ++ (decB id) ++ ⟨#[32]⟩ ++ (decB to') ++ ⟨#[32]⟩ ++ (decB cat) ++ ⟨#[32]⟩).size + X6.size := by (try simp only [ByteArray.size_append]); have : (⟨#[32]⟩ : ByteArray).size = 1 := rfl; omega
    have r11 : ¬ 9223372036854775807 < ((decB th) ++ ⟨#[32]⟩ ++ (decB kind) ++ ⟨#[32]⟩ ++ (decB id) ++ ⟨#[32]⟩ ++ (decB to') ++ ⟨#[32]⟩ ++ (decB cat) ++ ⟨#[32]⟩ ++ X6).size + (⟨#[32]⟩ : ByteArray).size := by (try simp only [ByteArray.size_append]); have : (⟨#[32]⟩ : ByteArray).size = 1 := rfl; omega
    have r12 : ¬ 9223372036854775807 < ((decB th) ++ ⟨#[32]⟩ ++ (decB kind) ++ ⟨#[32]⟩ ++ (decB id) ++ ⟨#[32]⟩ ++ (decB to') ++ ⟨#[32]⟩ ++ (decB cat) ++ ⟨#[32]⟩ ++ X6 ++ ⟨#[32]⟩).size + X7.size := by (try simp only [ByteArray.size_append]); have : (⟨#[32]⟩ : ByteArray).size = 1 := rfl; omega
    have r13 : ¬ 9223372036854775807 < ((decB th) ++ ⟨#[32]⟩ ++ (decB kind) ++ ⟨#[32]⟩ ++ (decB id) ++ ⟨#[32]⟩ ++ (decB to') ++ ⟨#[32]⟩ ++ (decB cat) ++ ⟨#[32]⟩ ++ X6 ++ ⟨#[32]⟩ ++ X7).size + (⟨#[32]⟩ : ByteArray).size := by (try simp only [ByteArray.size_append]); have : (⟨#[32]⟩ : ByteArray).size = 1 := rfl; omega
    have r14 : ¬ 9223372036854775807 < ((decB th) ++ ⟨#[32]⟩ ++ (decB kind) ++ ⟨#[32]⟩ ++ (decB id) ++ ⟨#[32]⟩ ++ (decB to') ++ ⟨#[32]⟩ ++ (decB cat) ++ ⟨#[32]⟩ ++ X6 ++ ⟨#[32]⟩ ++ X7 ++ ⟨#[32]⟩).size + d.size := by (try simp only [ByteArray.size_append]); have : (⟨#[32]⟩ : ByteArray).size = 1 := rfl; omega
    have ET : Hid (stepT (decB th) (decB kind) (decB id) (decB to') (decB cat) X6 X7 d = (decB th) ++ ⟨#[32]⟩ ++ (decB kind) ++ ⟨#[32]⟩ ++ (decB id) ++ ⟨#[32]⟩ ++ (decB to') ++ ⟨#[32]⟩ ++ (decB cat) ++ ⟨#[32]⟩ ++ X6 ++ ⟨#[32]⟩ ++ X7 ++ ⟨#[32]⟩ ++ d) := rfl
    obtain ⟨c0, c1, c2, c3, c4, c5, c6, c7, c8, c9⟩ := A0.ten
    have HA := hid (fun W (hW : Below (w.alloc (.cells #[.int .i64 th, .int .i64 kind, .int .i64 id, .int .i64 to', .int .i64 cat, .string d, .int .i64 bl, .slice al nl kl, .int .i64 bc, .slice ac nc kc] 33)).heap.size (w.alloc (.cells #[.int .i64 th, .int .i64 kind, .int .i64 id, .int .i64 to', .int .i64 cat, .string d, .int .i64 bl, .slice al nl kl, .int .i64 bc, .slice ac nc kc] 33)) W) => (A0.below hW))
    have HL := hid L0
    clear A0 L0 s1 s2 s3 s4 s5 sl sc
    go_enter Tryd.func6, Tryd.ntmps6
    go_wp2_with (go_at_call 15; refine P15.out.mono ?_; rintro e w1 ⟨rfl, h1⟩)
    have zz := (HA.out _ h1).lt
    obtain ⟨e0, e1, e2, e3, e4, e5, e6, e7, e8, e9⟩ := (HA.out _ h1).ten
    have L1 := hid (then_ HL.out h1)
    have u0 := up_cell zz e0
    have u1 := up_cell zz e1
    have u2 := up_cell zz e2
    have u3 := up_cell zz e3
    have u4 := up_cell zz e4
    have u5 := up_cell zz e5
    have u6 := up_cell zz e6
    have u7 := up_cell zz e7
    have u8 := up_cell zz e8
    have u9 := up_cell zz e9
    clear c0 c1 c2 c3 c4 c5 c6 c7 c8 c9 e0 e1 e2 e3 e4 e5 e6 e7 e8 e9 HA
    refine wp_region_quiet_up (by kernel_rfl) (by kernel_rfl) ?_
    repeat (go_big_quiet_step (first | (go_at_call 16; exact up_of (D.out _ (by assumption) (by assumption) _))))
    go_big_quiet_step (first | (go_at_call 17; exact up_of (PL.out _ (then_ L1.out (Up.h _)))))
    repeat (go_big_quiet_step (fail))
    go_big_quiet_step (first | (go_at_call 17; exact up_of (PC.out _ (then_ L1.out (Up.h _)))))
    repeat (go_big_quiet_step (fail))
    refine wpQuiet_nil ?_
    rintro _ ⟨p, rfl⟩
    go_wp2
    go_ret
    exact ⟨ret_str (by rw [E.out, ET.out]), then_ L1.out p.h⟩
end Go.Proofs.YtcpphobokdkkeaaDoor
