/- The program's shelf: a map from names to contents, each with its own list of pieces. -/
import Derived.Test.YtcdhhmedcplblaaDQ
namespace Go.Proofs.Ytcdhhmedcplblaa
open Go Go.RowKit Go.Deep Go.Maps
open Go.WideShapes (add_plain)

theorem Try.info9 : (Try.prog.info? 9).map (fun i => (i.zero, i.size, i.bytes)) = some (some (.string ⟨#[]⟩), 1, 16) := by kernel_rfl
def scells (l : List ByteArray) : List Value := l.map Value.string
def OwnS (w : World) (B : Nat) (v : Value) (l : List ByteArray) : Prop := w.ownsRow B 9 1 v l.length (scells l)
theorem grown_of_below {W W' : World} (h : Below W.heap.size W W') : W.grownBy W' none := ⟨h.os, h.tape, h.output, h.size, fun k hk _ => h.block k hk⟩
theorem OwnS.below {w w' : World} {B : Nat} {v : Value} {l : List ByteArray} (h : OwnS w B v l) (hb : Below w.heap.size w w') : OwnS w' B v l := by
  refine ⟨h.1, ?_⟩
  rcases h.2 with hn | ⟨g, cap, cur, hv, hbg, hg, rest⟩
  · exact .inl hn
  · exact .inr ⟨g, cap, cur, hv, hbg, (hb.block g (Array.getElem?_eq_some_iff.1 hg).1).trans hg, rest⟩
theorem OwnS.alloc {w : World} {B : Nat} {v : Value} {l : List ByteArray} (h : OwnS w B v l) (o : Obj) : OwnS (w.alloc o) B v l := World.ownsRow.alloc h o
theorem OwnS.none (w : World) : OwnS (w.alloc (.cells #[] 9)) w.heap.size (.slice (some ⟨w.heap.size, 0, none⟩) 0 0) [] := World.ownsRow_made w #[] 0 (Nat.le_refl _) (Nat.zero_le _) rfl
theorem one_str {w : World} (x : ByteArray) : LiesC (w.alloc (.cells #[.string x] 9)) (some ⟨w.heap.size, 0, none⟩) 1 [.string x] := fun _ =>
  ⟨w.heap.size, 0, rfl, by simp, fun j u hu => by
    cases j with
    | zero => simp at hu; subst hu; simp
    | succ j => simp at hu⟩
theorem wpList_append_str {ops : Array Oper} {rest : List Oper} {o : Oper} {a : Act} {Q : Exit → Act → World → Prop} (w : World) (hgd : o.guard = none) (s x : Operand)
    (ho : o.op = .call { callee := .builtin .append, args := #[s, x], argTypes := #[99, 99] })
    (B : Nat) (v : Value) (l : List ByteArray) (hs : a.eval s = v) (hown : OwnS w B v l) (ad : Option Addr) (c : Nat) (r : ByteArray) (hx : a.eval x = .slice ad 1 c) (hc : LiesC w ad 1 [.string r])
    (hm : l.length ≤ 2000000) (hB : B ≤ w.heap.size)
    (h : ∀ g c' w', OwnS w' B (.slice (some ⟨g, 0, none⟩) (l ++ [r]).length c') (l ++ [r]) → w.grownBy w' v.ownBlock → wpList Try.prog ops Q rest (a.put o.dst (.slice (some ⟨g, 0, none⟩) (l ++ [r]).length c')) w') : wpList Try.prog ops Q (o :: rest) a w := by
  refine wpList_plain hgd fun _ hK => wp_append_gen Try.underlying99 Try.info9 rfl (by omega) w s x ho B v l.length _ hs hown ad 1 c [.string r] hx (by simp) hc (fun u hu => by simp at hu; subst hu; rfl) (by omega) (by omega) hB fun a' c' w' h2 h3 _ => hK _ _ ?_
  have e1 : scells l ++ [Value.string r] = scells (l ++ [r]) := by simp [scells]
  have e2 : l.length + 1 = (l ++ [r]).length := by simp
  rw [e1] at h2
  obtain ⟨g, cap, hv, _, _⟩ := World.ownsRow.form h2 (by omega)
  simp only [Value.slice.injEq] at hv
  obtain ⟨rfl, _, _⟩ := hv
  rw [e2] at h2 ⊢
  exact h g c' w' h2 h3


theorem OwnS.kept {w w' : World} {B c : Nat} {v : Value} {l : List ByteArray} (h : OwnS w B v l) (hg : w.grownBy w' (some c)) (hne : v.ownBlock ≠ some c) : OwnS w' B v l := by
  refine ⟨h.1, ?_⟩
  rcases h.2 with hn | ⟨g, cap, cur, hv, hbg, hg', rest⟩
  · exact .inl hn
  · refine .inr ⟨g, cap, cur, hv, hbg, (hg.block g (Array.getElem?_eq_some_iff.1 hg').1 (fun e => hne ?_)).trans hg', rest⟩
    rw [hv]
    exact e
/-- the shelf c stands for what `look` tells: m the contents' blocks, pv their lists' values, ps what these hold -/
structure Shelf (w : World) (B c n q : Nat) (look : List UInt8 → Option ByteArray) (m : List UInt8 → Option Nat) (pv : List UInt8 → Value) (ps : List UInt8 → List ByteArray) : Prop where
  map : MapS w c n m
  dom : ∀ x, (m x).isSome = (look x).isSome
  blk : ∀ x b d, m x = some b → look x = some d → Blk w b (.cells #[pv x, .int .i64 d.size] 101)
  own : ∀ x d, look x = some d → OwnS w B (pv x) (ps x) ∧ ((ps x).map key).flatten = key d ∧ (ps x).length ≤ q
  inj : ∀ x y b, m x = some b → m y = some b → x = y
  apart : ∀ x y, x ≠ y → (look x).isSome = true → (look y).isSome = true → (pv x).ownBlock = none ∨ (pv x).ownBlock ≠ (pv y).ownBlock
  low : ∀ x b, m x = some b → B ≤ b
  lowc : B ≤ c
theorem Shelf.below {w w' : World} {B c n q : Nat} {look : List UInt8 → Option ByteArray} {m : List UInt8 → Option Nat} {pv : List UInt8 → Value} {ps : List UInt8 → List ByteArray} (h : Shelf w B c n q look m pv ps) (hb : Below w.heap.size w w') : Shelf w' B c n q look m pv ps :=
  ⟨h.map.below hb, h.dom, fun x b d h1 h2 => (h.blk x b d h1 h2).below hb, fun x d h1 => ⟨(h.own x d h1).1.below hb, (h.own x d h1).2⟩, h.inj, h.apart, h.low, h.lowc⟩
theorem OwnS.notMap {w : World} {B c : Nat} {v : Value} {l : List ByteArray} (h : OwnS w B v l) (hm : ∃ es clock, w.heap[c]? = some (.map es clock)) : v.ownBlock ≠ some c := fun e => by
  obtain ⟨es, clock, hc⟩ := hm
  rcases h.2 with ⟨hv, _⟩ | ⟨g, cap, cur, hv, _, hg, _⟩
  · rw [hv] at e; cases e
  · rw [hv] at e
    have : g = c := by simpa [Value.ownBlock] using e
    subst this
    rw [hc] at hg
    cases hg
/-- the map alone is turned: names are taken away, or stand for another's content -/
theorem Shelf.turn {w w' : World} {B c n n' q : Nat} {look look' : List UInt8 → Option ByteArray} {m m' : List UInt8 → Option Nat} {pv : List UInt8 → Value} {ps : List UInt8 → List ByteArray} (h : Shelf w B c n q look m pv ps)
    (f : List UInt8 → Option (List UInt8)) (hf : ∀ x y z, f x = some z → f y = some z → x = y) (hm : ∀ x, m' x = (f x).bind m) (hl : ∀ x, look' x = (f x).bind look) (hM : MapS w' c n' m') (hG : w.grownBy w' (some c)) :
    Shelf w' B c n' q look' m' (fun x => pv ((f x).getD [])) (fun x => ps ((f x).getD [])) := by
  have hmap := h.map.isMap
  have get : ∀ x b, m' x = some b → ∃ z, f x = some z ∧ m z = some b := fun x b hx => by
    rw [hm] at hx
    exact Option.bind_eq_some_iff.1 hx
  have getl : ∀ x d, look' x = some d → ∃ z, f x = some z ∧ look z = some d := fun x d hx => by
    rw [hl] at hx
    exact Option.bind_eq_some_iff.1 hx
  refine ⟨hM, fun x => ?_, fun x b d h1 h2 => ?_, fun x d h1 => ?_, fun x y b h1 h2 => ?_, fun x y hne h1 h2 => ?_, fun x b h1 => ?_, h.lowc⟩
  · rw [hm, hl]
    cases e : f x with
    | none => rfl
    | some z => exact h.dom z
  · obtain ⟨z, e1, e2⟩ := get x b h1
    obtain ⟨z', e3, e4⟩ := getl x d h2
    obtain rfl : z = z' := by rw [e1] at e3; exact Option.some.inj e3
    have hb := h.blk z b d e2 e4
    simp only [e1, Option.getD_some]
    refine (hG.block b hb.lt (fun e => ?_)).trans hb
    obtain ⟨es, clock, hc⟩ := hmap
    have e' : b = c := Option.some.inj e
    unfold Blk at hb
    rw [e', hc] at hb
    cases hb
  · obtain ⟨z, e1, e2⟩ := getl x d h1
    simp only [e1, Option.getD_some]
    have ho := h.own z d e2
    exact ⟨ho.1.kept hG (ho.1.notMap hmap), ho.2⟩
  · obtain ⟨z, e1, e2⟩ := get x b h1
    obtain ⟨z', e3, e4⟩ := get y b h2
    have := h.inj z z' b e2 e4
    subst this
    exact hf x y z e1 e3
  · obtain ⟨d, hd⟩ := Option.isSome_iff_exists.1 h1
    obtain ⟨d', hd'⟩ := Option.isSome_iff_exists.1 h2
    obtain ⟨z, e1, e2⟩ := getl x d hd
    obtain ⟨z', e3, e4⟩ := getl y d' hd'
    simp only [e1, e3, Option.getD_some]
    exact h.apart z z' (fun e => hne (hf x y z e1 (by rw [e]; exact e3))) (by rw [e2]; rfl) (by rw [e4]; rfl)
  · obtain ⟨z, _, e2⟩ := get x b h1
    exact h.low z b e2
end Go.Proofs.Ytcdhhmedcplblaa
