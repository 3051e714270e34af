/- What reading a label gives; LabelText of the model. -/
import Derived.Test.YtcpphobokdkkeaaDoorLF
namespace Go.Proofs.YtcpphobokdkkeaaDoor
open Go.RowKit Go.Deep Go.Maps

/-- what is read: base, categories, whether it is a label -/
def fin (b : Int) : Option (List (Int × Int)) → Int × List (Int × Int) × Bool
  | some cats => if labOk b cats.length (fstAt cats) (sndAt cats) = true then (b, cats, true) else (0, [], false)
  | none => (0, [], false)
def readL (L : List UInt8) : Int × List (Int × Int) × Bool :=
  if okD (cutL 44 L).1 = true then fin (numL (cutL 44 L).1) (gather 12 (cutL 44 L).2.1 (cutL 44 L).2.2 []) else (0, [], false)

def RPost (r : Int × List (Int × Int) × Bool) (w : World) (e : Ending) (w' : World) : Prop :=
  ∃ a k, e = .returned (.tuple #[.agg #[.int .i64 r.1, .slice a r.2.1.length k], .bool r.2.2]) ∧ OwnList w' w.heap.size (.slice a r.2.1.length k) r.2.1 ∧ Below w.heap.size w w'

theorem OwnList.nil (w : World) (B : Nat) : OwnList w B (.slice none 0 0) [] := OwnCats.nil _ _ _ _

theorem RPost.no {r : Int × List (Int × Int) × Bool} {w w' : World} (hr : r = (0, [], false)) (hb : Below w.heap.size w w') : RPost r w (.returned (.tuple #[.agg #[.int .i64 0, .slice none 0 0], .bool false])) w' := by
  subst hr
  exact ⟨none, 0, rfl, OwnList.nil _ _, hb⟩
theorem RPost.yes {r : Int × List (Int × Int) × Bool} {b : Int} {l : List (Int × Int)} {a : Option Addr} {k : Nat} {w w' : World} (hr : r = (b, l, true)) (ho : OwnList w' w.heap.size (.slice a l.length k) l) (hb : Below w.heap.size w w') : RPost r w (.returned (.tuple #[.agg #[.int .i64 b, .slice a l.length k], .bool true])) w' := by
  subst hr
  exact ⟨a, k, rfl, ho, hb⟩

theorem cutL_more {c : UInt8} {L : List UInt8} (h : (cutL c L).2.2 = true) : (cutL c L).2.1.length + 1 ≤ L.length := by
  have := congrArg List.length (cutL_join c L)
  rw [h, if_pos rfl, List.length_append, List.length_cons] at this
  omega
def strN : Value → Nat
  | .string s => s.size
  | _ => 0
def boolN : Value → Nat
  | .bool true => 1
  | _ => 0
theorem cut_measure (L : List UInt8) : (cutL 44 L).2.1.length + (if (cutL 44 L).2.2 = true then 1 else 0) < L.length + 1 := by
  cases h : (cutL 44 L).2.2 with
  | true => have := cutL_more h; simp; omega
  | false => have := cutL_none 44 L h; rw [this]; simp

theorem gather_false (n : Nat) (R : List UInt8) (l : List (Int × Int)) : gather n R false l = some l := by cases n <;> rfl
theorem gather_full (R : List UInt8) (l : List (Int × Int)) : gather 0 R true l = none := rfl
theorem gather_bad (n : Nat) (R : List UInt8) (l : List (Int × Int)) (h : catOkL (cutL 44 R).1 = false) : gather n R true l = none := by
  cases n with
  | zero => rfl
  | succ n => simp [gather, h]
theorem gather_next (n : Nat) (R : List UInt8) (l : List (Int × Int)) (h : catOkL (cutL 44 R).1 = true) : gather (n + 1) R true l = gather n (cutL 44 R).2.1 (cutL 44 R).2.2 (l ++ [catL (cutL 44 R).1]) := by simp [gather, h]

theorem catsTo_list (l : List (Int × Int)) : catsTo (fstAt l) (sndAt l) l.length = l := by
  apply List.ext_getElem
  · simp [catsTo]
  · intro i h1 h2
    simp [catsTo, fstAt, sndAt, h2]

/-- the text of a right label, or nothing -/
def ltext (base : Int) (n : Nat) (f g : Nat → Int) : List UInt8 := if labOk base n f g = true then txt base (catsTo f g n) else []

set_option maxRecDepth 100000 in
set_option maxHeartbeats 2000000 in
theorem specLabelText_any (base : Int) (a : Option Addr) (n cap : Nat) (f g : Nat → Int) (w : World) (hn : n ≤ maxLen) (hc : CatsAt w a n f g) :
    Calls Tryd.prog 48 #[.agg #[.int .i64 base, .slice a n cap]] w fun e w' => e = .returned (.string ⟨(ltext base n f g).toArray⟩) ∧ Below w.heap.size w w' := by
  have L0 := (Below.refl _ w).alloc (Nat.le_refl _) (.cells #[.int .i64 base, .slice a n cap] 31)
  have A0 := Blk.new w (.cells #[.int .i64 base, .slice a n cap] 31)
  obtain ⟨x1, x2⟩ := A0.two
  go_enter Tryd.func48, Tryd.ntmps48
  go_wp2_with fail
  refine (specOk_any _ _ _ _ f g _ hn (hc.below L0)).mono ?_
  rintro e w1 ⟨rfl, hb1⟩
  have L1 : Below w.heap.size w w1 := L0.trans (hb1.mono L0.size)
  have A1 := A0.below hb1
  clear x1 x2 A0 L0 hb1
  obtain ⟨x1, x2⟩ := A1.two
  cases h : labOk base n f g with
  | false =>
    go_wp2
    go_ret
    exact ⟨by simp [ltext, h], L1⟩
  | true =>
    obtain ⟨h1, h2, h3⟩ := labOk_out h
    have h1' := inB_iff.1 h1
    go_wp2_with fail
    refine (l1Text_any _ _ _ _ f g _ h2 (hc.below L1) (by omega) (fun i hi => by have := catOk_iff.1 (h3 i hi); omega) (fun i hi => by have := catOk_iff.1 (h3 i hi); omega)).mono ?_
    rintro e w2 ⟨rfl, hb2⟩
    clear h3
    go_wp2
    go_ret
    exact ⟨by simp [ltext, h], L1.trans (hb2.mono L1.size)⟩
end Go.Proofs.YtcpphobokdkkeaaDoor
