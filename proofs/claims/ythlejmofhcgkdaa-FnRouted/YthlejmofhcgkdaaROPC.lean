/- Appending routes. -/
import Derived.Test.YthlejmofhcgkdaaROPB
import Derived.Test.YthlejmofhcgkdaaNGQ
namespace Go.Proofs.Ythlejmofhcgkdaa
open Go Go.RowKit Go.Deep Go.Maps
open Go.WideShapes (add_plain)

abbrev R3 := Int × Int × Int
def rc (r : R3) : List Value := [.int .i64 r.1, .int .i64 r.2.1, .int .i64 r.2.2]
def rcells (l : List R3) : List Value := l.flatMap rc
theorem rcells_len (l : List R3) : (rcells l).length = l.length * 3 := by
  induction l with
  | nil => rfl
  | cons a l ih =>
    have e : rcells (a :: l) = rc a ++ rcells l := by rw [rcells, List.flatMap_cons]; rfl
    rw [e, List.length_append, ih, List.length_cons]
    show 3 + _ = _
    omega
def OwnR (w : World) (B : Nat) (v : Value) (l : List R3) : Prop := w.ownsRow B 29 3 v l.length (rcells l)

theorem below_grown {a b : World} {B : Nat} {P : Option Nat} (h : a.grownBy b P) (hB : B ≤ a.heap.size) (hp : ∀ x, P = some x → B ≤ x) : Below B a b :=
  ⟨h.os, h.tape, h.output, h.size, fun k hk => h.block k (by omega) (fun e => by have := hp k (by first | exact e | exact e.symm); omega)⟩
theorem grown_of_below {W W' : World} (h : Below W.heap.size W W') : W.grownBy W' none := ⟨h.os, h.tape, h.output, h.size, fun k hk _ => h.block k hk⟩
theorem OwnR.below {w w' : World} {B g n c : Nat} {l : List R3} (h : OwnR w B (.slice (some ⟨g, 0, none⟩) n c) l) (hb : Below w.heap.size w w') : OwnR w' B (.slice (some ⟨g, 0, none⟩) n c) l :=
  World.ownsRow.kept h (grown_of_below hb) (.inr (by simp [Value.ownBlock]))
theorem OwnR.alloc {w : World} {B : Nat} {v : Value} {l : List R3} (h : OwnR w B v l) (o : Obj) : OwnR (w.alloc o) B v l := World.ownsRow.alloc h o
theorem OwnR.none (w : World) : OwnR (w.alloc (.cells #[] 29)) w.heap.size (.slice (some ⟨w.heap.size, 0, none⟩) 0 0) [] := World.ownsRow_made w #[] 0 (Nat.le_refl _) (Nat.zero_le _) rfl

theorem one_rt {w : World} (r : R3) : LiesC (w.alloc (.cells #[.int .i64 r.1, .int .i64 r.2.1, .int .i64 r.2.2] 29)) (some ⟨w.heap.size, 0, none⟩) 1 (rc r) := fun _ =>
  ⟨w.heap.size, 0, rfl, by simp, fun j u hu => by
    match j with
    | 0 => simp [rc] at hu; subst hu; simp
    | 1 => simp [rc] at hu; subst hu; simp
    | 2 => simp [rc] at hu; subst hu; simp
    | j + 3 => simp [rc] at hu⟩

theorem wpList_append_rt {ops : Array Oper} {rest : List Oper} {o : Oper} {a : Act} {Q : Exit → Act → World → Prop} (w : World) (hgd : o.guard = none) (s x : Operand)
    (ho : o.op = .call { callee := .builtin .append, args := #[s, x], argTypes := #[24, 24] })
    (B : Nat) (v : Value) (l : List R3) (hs : a.eval s = v) (hown : OwnR w B v l) (ad : Option Addr) (c : Nat) (r : R3) (hx : a.eval x = .slice ad 1 c) (hc : LiesC w ad 1 (rc r))
    (hm : l.length ≤ 1000) (hB : B ≤ w.heap.size)
    (h : ∀ g c' w', OwnR w' B (.slice (some ⟨g, 0, none⟩) (l ++ [r]).length c') (l ++ [r]) → w.grownBy w' v.ownBlock → wpList Try.prog ops Q rest (a.put o.dst (.slice (some ⟨g, 0, none⟩) (l ++ [r]).length c')) w') : wpList Try.prog ops Q (o :: rest) a w := by
  refine wpList_plain hgd fun _ hK => wp_append_gen Try.underlying24 Try.info29 rfl (by omega) w s x ho B v l.length _ hs hown ad 1 c (rc r) hx (by simp [rc]) hc (fun u hu => by simp [rc] at hu; rcases hu with rfl | rfl | rfl <;> rfl) (by omega) (by omega) hB fun a' c' w' h2 h3 _ => hK _ _ ?_
  have e1 : rcells l ++ rc r = rcells (l ++ [r]) := by simp [rcells]
  have e2 : l.length + 1 = (l ++ [r]).length := by simp
  rw [e1] at h2
  obtain ⟨g, cap, hv, _, _⟩ := World.ownsRow.form h2 (by omega)
  simp only [Value.slice.injEq] at hv
  obtain ⟨rfl, _, _⟩ := hv
  rw [e2] at h2 ⊢
  exact h g c' w' h2 h3
end Go.Proofs.Ythlejmofhcgkdaa
