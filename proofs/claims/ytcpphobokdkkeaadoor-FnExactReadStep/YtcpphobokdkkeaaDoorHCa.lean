/- StepOk of the program answers the plain function stepOk. -/
import Derived.Test.YtcpphobokdkkeaaDoorHB
import Derived.Test.YtcpphobokdkkeaaDoorYB
namespace Go.Proofs.YtcpphobokdkkeaaDoor
open Go.RowKit Go.Deep

theorem Blk.six {W : World} {P t : Nat} {x0 x1 x2 x3 x4 x5 : Value} (h : Blk W P (.cells #[x0, x1, x2, x3, x4, x5] t)) : W.cell? ⟨P, 0, none⟩ = some x0 ∧ W.cell? ⟨P, 1, none⟩ = some x1 ∧ W.cell? ⟨P, 2, none⟩ = some x2 ∧ W.cell? ⟨P, 3, none⟩ = some x3 ∧ W.cell? ⟨P, 4, none⟩ = some x4 ∧ W.cell? ⟨P, 5, none⟩ = some x5 := by
  unfold Blk at h
  simp [World.cell?, h]
theorem Blk.ten {W : World} {P t : Nat} {x0 x1 x2 x3 x4 x5 x6 x7 x8 x9 : Value} (h : Blk W P (.cells #[x0, x1, x2, x3, x4, x5, x6, x7, x8, x9] t)) : W.cell? ⟨P, 0, none⟩ = some x0 ∧ W.cell? ⟨P, 1, none⟩ = some x1 ∧ W.cell? ⟨P, 2, none⟩ = some x2 ∧ W.cell? ⟨P, 3, none⟩ = some x3 ∧ W.cell? ⟨P, 4, none⟩ = some x4 ∧ W.cell? ⟨P, 5, none⟩ = some x5 ∧ W.cell? ⟨P, 6, none⟩ = some x6 ∧ W.cell? ⟨P, 7, none⟩ = some x7 ∧ W.cell? ⟨P, 8, none⟩ = some x8 ∧ W.cell? ⟨P, 9, none⟩ = some x9 := by
  unfold Blk at h
  simp [World.cell?, h]

def noText (d : ByteArray) : Bool := d.toList.isEmpty
/-- is a step right? -/
def stepC (ok ui ut uc ud ul ue : Bool) (th kind id to' cat : Int) (d : ByteArray) (lo zl co zc : Bool) : Bool :=
  ok && inB th 1 9 && lo && (ul || zl) && co && (ue || zc) && plainB d 40 && (ud || noText d) && numB id ui && numB to' ut && catB kind cat uc
def stepOk (th kind id to' cat : Int) (d : ByteArray) (bl : Int) (nl : Nat) (fl gl : Nat → Int) (bc : Int) (nc : Nat) (fc gc : Nat → Int) : Bool :=
  stepC (uOk kind) (uId kind) (uTo kind) (uCat kind) (uData kind) (uLabel kind) (uClear kind) th kind id to' cat d (labOk bl nl fl gl) (zeroB bl nl) (labOk bc nc fc gc) (zeroB bc nc)

set_option maxRecDepth 100000 in
set_option maxHeartbeats 1000000 in
theorem catOk_any (th kind id to' cat : Int) (d : ByteArray) (bl : Int) (al : Option Addr) (nl kl : Nat)  (bc : Int) (ac : Option Addr) (nc kc : Nat)  (used : Bool) (w : World) :
    Calls Tryd.prog 42 #[.agg #[.int .i64 th, .int .i64 kind, .int .i64 id, .int .i64 to', .int .i64 cat, .string d, .int .i64 bl, .slice al nl kl, .int .i64 bc, .slice ac nc kc], .bool used] w fun e w' => e = .returned (.bool (catB kind cat used)) ∧ Below w.heap.size w w' := by
  have hb0 := (Below.refl _ w).alloc (Nat.le_refl _) (.cells #[.int .i64 th, .int .i64 kind, .int .i64 id, .int .i64 to', .int .i64 cat, .string d, .int .i64 bl, .slice al nl kl, .int .i64 bc, .slice ac nc kc] 33)
  cases t : (cat == 0) with
  | true =>
    go_enter Tryd.func42, Tryd.ntmps42
    go_wp2
    go_ret
    exact ⟨ret_bool (by simp [catB, t]), hb0⟩
  | false =>
    cases used with
    | true =>
      go_enter Tryd.func42, Tryd.ntmps42
      go_wp2_with (go_at_call 58; refine (isCat_any _ _).mono ?_; rintro e w' ⟨rfl, rfl⟩)
      go_ret
      exact ⟨ret_bool (by simp [catB, t]), hb0⟩
    | false =>
      go_enter Tryd.func42, Tryd.ntmps42
      go_wp2
      go_ret
      exact ⟨ret_bool (by simp [catB, t]), hb0⟩

end Go.Proofs.YtcpphobokdkkeaaDoor
