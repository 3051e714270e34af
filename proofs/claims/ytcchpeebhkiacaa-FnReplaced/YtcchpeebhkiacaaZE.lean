/- Maps from texts to pointers. -/
import Derived.Test.YtcchpeebhkiacaaDN
import Derived.StringKeys
import Derived.Maps.OwnSet
import Derived.Sort.KeysCollected
namespace Go.Proofs.Ytcchpeebhkiacaa
open Go Go.RowKit Go.Deep Go.Maps

/-- how a pointer to the head of a block reads: the block's number; none: -1 -/
def ptrElem (v : Value) : Option (DataW Unit × List MemPlace) :=
  match v with
  | .pointer none => some (.lit (.int .i64 (-1)), [])
  | .pointer (some ⟨b, 0, none⟩) => some (.lit (.int .i64 (b : Int)), [])
  | _ => none
theorem ptrElem_inv {v : Value} {c : Int} {ps : List MemPlace} (h : ptrElem v = some (.lit (.int .i64 c), ps)) : v = .pointer (if c = -1 then none else some ⟨c.toNat, 0, none⟩) := by
  unfold ptrElem at h
  split at h
  · simp only [Option.some.injEq, Prod.mk.injEq, DataW.lit.injEq, Lit.int.injEq] at h
    rw [if_pos h.1.2.symm]
  · simp only [Option.some.injEq, Prod.mk.injEq, DataW.lit.injEq, Lit.int.injEq] at h
    obtain ⟨⟨_, e⟩, _⟩ := h
    rw [if_neg (by omega), ← e]
    simp
  · cases h

theorem keyedS : Keyed Try.prog 9 := string_keyed Try.underlying9
theorem keyS {s : ByteArray} (hs : s.size ≤ maxLen) : keyOf Try.prog 9 (.string s) = some (.string (key s)) := WideMaps.keyOf_string_mk Try.underlying9 hs
/-- block b is a map from texts to pointers at heads of blocks -/
def MapS (w : World) (b n : Nat) (m : List UInt8 → Option Nat) : Prop :=
  ∃ D : DataW Unit, w.ownsMap Try.prog 9 ptrElem b n D ∧ IsMap D ∧
    ∀ x, Maps.has D (.string x) = (m x).isSome ∧ ∀ v, m x = some v → D.atKey (.string x) (.lit (.int .i64 (-1))) = .lit (.int .i64 (v : Int))
theorem MapS.made (w : World) : MapS (w.alloc (.map #[] 0)) w.heap.size 0 (fun _ => none) :=
  ⟨.map [], World.ownsMap_made _ _ _ _, isMap_empty, fun x => ⟨rfl, fun v h => by cases h⟩⟩
theorem MapS.of_block {w w' : World} {b n : Nat} {m : List UInt8 → Option Nat} (h : MapS w b n m) (e : w'.heap[b]? = w.heap[b]?) : MapS w' b n m := by
  obtain ⟨D, ⟨es, clock, hb, F, hs, hD⟩, r⟩ := h
  exact ⟨D, ⟨es, clock, e.trans hb, F, hs, hD⟩, r⟩
theorem MapS.lt {w : World} {b n : Nat} {m : List UInt8 → Option Nat} (h : MapS w b n m) : b < w.heap.size := by
  obtain ⟨D, h1, _⟩ := h
  exact h1.lt
theorem MapS.below {w w' : World} {b n : Nat} {m : List UInt8 → Option Nat} (h : MapS w b n m) (hb : Below w.heap.size w w') : MapS w' b n m := h.of_block (hb.block b h.lt)
theorem MapS.isMap {w : World} {b n : Nat} {m : List UInt8 → Option Nat} (h : MapS w b n m) : ∃ es clock, w.heap[b]? = some (.map es clock) := by
  obtain ⟨D, ⟨es, clock, hb, _⟩, _⟩ := h
  exact ⟨es, clock, hb⟩
def setS (m : List UInt8 → Option Nat) (k : List UInt8) (v : Nat) (x : List UInt8) : Option Nat := if k = x then some v else m x
def delS (m : List UInt8 → Option Nat) (k : List UInt8) (x : List UInt8) : Option Nat := if k = x then none else m x
theorem MapS.put {D : DataW Unit} {m : List UInt8 → Option Nat} {k : List UInt8} {v : Nat} (h2 : IsMap D)
    (h3 : ∀ x, Maps.has D (.string x) = (m x).isSome ∧ ∀ v, m x = some v → D.atKey (.string x) (.lit (.int .i64 (-1))) = .lit (.int .i64 (v : Int))) :
    IsMap (D.put (.string k) (.lit (.int .i64 (v : Int)))) ∧
    ∀ x, Maps.has (D.put (.string k) (.lit (.int .i64 (v : Int)))) (.string x) = (setS m k v x).isSome ∧ ∀ u, setS m k v x = some u → (D.put (.string k) (.lit (.int .i64 (v : Int)))).atKey (.string x) (.lit (.int .i64 (-1))) = .lit (.int .i64 (u : Int)) := by
  refine ⟨h2.put _ _, fun x => ?_⟩
  by_cases e : k = x
  · subst e
    refine ⟨?_, fun u hu => ?_⟩
    · rw [has_put_same h2 (by trivial)]; simp [setS]
    · simp [setS] at hu
      subst hu
      exact atKey_put_same h2 (by trivial) _ _
  · have hne : (Lit.string x) ≠ (Lit.string k) := by simp; exact fun h => e h.symm
    refine ⟨?_, fun u hu => ?_⟩
    · rw [has_put_other hne]; simp [setS, e]; exact (h3 x).1
    · simp [setS, e] at hu
      rw [atKey_put_other hne]
      exact (h3 x).2 u hu
theorem zeroP (w : World) : (zeroValue 74).run Try.prog w = .ok (.pointer none) w := by kernel_rfl
theorem MapS.look {w : World} {b n : Nat} {m : List UInt8 → Option Nat} {s : ByteArray} (h : MapS w b n m) (hs : s.size ≤ maxLen) :
    (Instr.lookup 52 (.map (some b)) (.string s) false).run Try.prog w = .ok (.pointer ((m (key s)).map fun p => ⟨p, 0, none⟩)) w := by
  obtain ⟨D, hown, hD, hall⟩ := h
  obtain ⟨v, ps, hrun, hv⟩ := hown.lookup keyedS Try.underlying52 (zeroP w) (zd := .lit (.int .i64 (-1))) (zp := []) rfl (keyS hs)
  obtain ⟨h1, h2⟩ := hall (key s)
  rw [hrun]
  cases hm : m (key s) with
  | none =>
    have : Maps.has D (.string (key s)) = false := by rw [h1, hm]; rfl
    rw [atKey_of_not_has this] at hv
    rw [ptrElem_inv hv]
    rfl
  | some p =>
    rw [h2 p hm] at hv
    rw [ptrElem_inv hv, if_neg (by omega)]
    simp
theorem MapS.update {w : World} {b n : Nat} {m : List UInt8 → Option Nat} {s : ByteArray} (h : MapS w b n m) (hs : s.size ≤ maxLen) (hn : n < maxLen) (p : Nat) :
    ∃ w', (Instr.mapUpdate 52 (.map (some b)) (.string s) (.pointer (some ⟨p, 0, none⟩))).run Try.prog w = .ok () w' ∧ MapS w' b (n + 1) (setS m (key s) p) ∧ w.grownBy w' (some b) := by
  obtain ⟨D, hown, hD, hall⟩ := h
  obtain ⟨w', hrun, r1, r2⟩ := hown.update keyedS Try.underlying52 hn (keyS hs) (val := .pointer (some ⟨p, 0, none⟩)) (d := .lit (.int .i64 (p : Int))) (ps := []) rfl
  have hp := MapS.put (k := key s) (v := p) hD hall
  exact ⟨w', hrun, ⟨_, r1, hp.1, hp.2⟩, r2⟩
theorem MapS.drop {w : World} {b n : Nat} {m : List UInt8 → Option Nat} {s : ByteArray} (h : MapS w b n m) (hs : s.size ≤ maxLen) (ty : TypeId) :
    ∃ w', (Builtin.delete_ #[52, 9] ty #[.map (some b), .string s]).run Try.prog w = .ok (.tuple #[]) w' ∧ MapS w' b n (delS m (key s)) ∧ w.grownBy w' (some b) := by
  obtain ⟨D, hown, hD, hall⟩ := h
  have hd := hown.drop keyedS Try.underlying52 (keyS hs) ty
  obtain ⟨w', hrun, r1, r2⟩ := hd
  refine ⟨w', hrun, ⟨_, r1, r1.isMap, fun x => ?_⟩, r2.grown⟩
  by_cases e : key s = x
  · subst e
    refine ⟨?_, fun v hv => ?_⟩
    · rw [has_del_same]; simp [delS]
    · simp [delS] at hv
  · have hne : (Lit.string x) ≠ (Lit.string (key s)) := by simp; exact fun h => e h.symm
    refine ⟨?_, fun v hv => ?_⟩
    · rw [has_del_other hne]; simp [delS, e]; exact (hall x).1
    · simp [delS, e] at hv
      rw [atKey_del_other hne]
      exact (hall x).2 v hv
/-- a text that is a key, as its bytes -/
def strOf (l : Lit) : List UInt8 := match l with | .string x => x | _ => []
theorem MapS.count {w : World} {b n : Nat} {m : List UInt8 → Option Nat} (h : MapS w b n m) (ty : TypeId) :
    ∃ K : List (List UInt8), K.Nodup ∧ (∀ x, x ∈ K ↔ (m x).isSome = true) ∧ K.length ≤ n ∧ (Builtin.len_ #[52] ty #[.map (some b)]).run Try.prog w = .ok (.int .i64 K.length) w := by
  obtain ⟨D, hown, hD, hall⟩ := h
  have hsz := hown.size_le
  have hlen := hown.len Try.underlying52 ty
  obtain ⟨es, hE, hpw, _⟩ := hown.entries keyedS
  obtain ⟨es', hE', hko⟩ := hown.keysOf
  obtain rfl : es = es' := by rw [hE] at hE'; simpa using hE'
  subst hE
  have hk : ∀ p ∈ es, ∃ x, p.1 = .string x := fun p hp => by
    obtain ⟨v, hv⟩ := hko p hp
    obtain ⟨s, _, h2, _⟩ := WideMaps.string_of_keyOf Try.underlying9 hv
    exact ⟨_, h2⟩
  refine ⟨es.map (fun p => strOf p.1), ?_, fun x => ?_, ?_, ?_⟩
  · refine List.pairwise_map.2 (hpw.imp_of_mem fun {p q} hp' hq' hne e => hne ?_)
    obtain ⟨a, ha⟩ := hk p hp'
    obtain ⟨b, hb⟩ := hk q hq'
    rw [ha, hb] at e ⊢
    exact congrArg _ e
  · rw [← (hall x).1, has_eq, List.any_eq_true, List.mem_map]
    constructor
    · rintro ⟨p, hp', rfl⟩
      obtain ⟨a, ha⟩ := hk p hp'
      exact ⟨p, hp', by rw [ha]; simp [Lit.sameKey, strOf]⟩
    · rintro ⟨p, hp', hs⟩
      obtain ⟨a, ha⟩ := hk p hp'
      rw [ha] at hs
      exact ⟨p, hp', by rw [ha]; simpa [Lit.sameKey, strOf] using hs⟩
  · have h2 : (es.map (fun p => strOf p.1)).length = Maps.size (.map es : DataW Unit) := by simp [Maps.size]
    omega
  · have h2 : (es.map (fun p => strOf p.1)).length = Maps.size (.map es : DataW Unit) := by simp [Maps.size]
    rw [h2]
    exact hlen
end Go.Proofs.Ytcchpeebhkiacaa
/- The program's shelf: a map from names to contents, each with its own list of pieces. -/
namespace Go.Proofs.Ytcchpeebhkiacaa
open Go Go.RowKit Go.Deep Go.Maps
open Go.WideShapes (add_plain)

theorem Try.info9 : (Try.prog.info? 9).map (fun i => (i.zero, i.size, i.bytes)) = some (some (.string ⟨#[]⟩), 1, 16) := by kernel_rfl
def scells (l : List ByteArray) : List Value := l.map Value.string
def OwnS (w : World) (B : Nat) (v : Value) (l : List ByteArray) : Prop := w.ownsRow B 9 1 v l.length (scells l)
theorem grown_of_below {W W' : World} (h : Below W.heap.size W W') : W.grownBy W' none := ⟨h.os, h.tape, h.output, h.size, fun k hk _ => h.block k hk⟩
theorem OwnS.below {w w' : World} {B : Nat} {v : Value} {l : List ByteArray} (h : OwnS w B v l) (hb : Below w.heap.size w w') : OwnS w' B v l := by
  refine ⟨h.1, ?_⟩
  rcases h.2 with hn | ⟨g, cap, cur, hv, hbg, hg, rest⟩
  · exact .inl hn
  · exact .inr ⟨g, cap, cur, hv, hbg, (hb.block g (Array.getElem?_eq_some_iff.1 hg).1).trans hg, rest⟩
theorem OwnS.alloc {w : World} {B : Nat} {v : Value} {l : List ByteArray} (h : OwnS w B v l) (o : Obj) : OwnS (w.alloc o) B v l := World.ownsRow.alloc h o
theorem OwnS.none (w : World) : OwnS (w.alloc (.cells #[] 9)) w.heap.size (.slice (some ⟨w.heap.size, 0, none⟩) 0 0) [] := World.ownsRow_made w #[] 0 (Nat.le_refl _) (Nat.zero_le _) rfl
theorem one_str {w : World} (x : ByteArray) : LiesC (w.alloc (.cells #[.string x] 9)) (some ⟨w.heap.size, 0, none⟩) 1 [.string x] := fun _ =>
  ⟨w.heap.size, 0, rfl, by simp, fun j u hu => by
    cases j with
    | zero => simp at hu; subst hu; simp
    | succ j => simp at hu⟩
theorem wpList_append_str {ops : Array Oper} {rest : List Oper} {o : Oper} {a : Act} {Q : Exit → Act → World → Prop} (w : World) (hgd : o.guard = none) (s x : Operand)
    (ho : o.op = .call { callee := .builtin .append, args := #[s, x], argTypes := #[65, 65] })
    (B : Nat) (v : Value) (l : List ByteArray) (hs : a.eval s = v) (hown : OwnS w B v l) (ad : Option Addr) (c : Nat) (r : ByteArray) (hx : a.eval x = .slice ad 1 c) (hc : LiesC w ad 1 [.string r])
    (hm : l.length ≤ 2000000) (hB : B ≤ w.heap.size)
    (h : ∀ g c' w', OwnS w' B (.slice (some ⟨g, 0, none⟩) (l ++ [r]).length c') (l ++ [r]) → w.grownBy w' v.ownBlock → wpList Try.prog ops Q rest (a.put o.dst (.slice (some ⟨g, 0, none⟩) (l ++ [r]).length c')) w') : wpList Try.prog ops Q (o :: rest) a w := by
  refine wpList_plain hgd fun _ hK => wp_append_gen Try.underlying65 Try.info9 rfl (by omega) w s x ho B v l.length _ hs hown ad 1 c [.string r] hx (by simp) hc (fun u hu => by simp at hu; subst hu; rfl) (by omega) (by omega) hB fun a' c' w' h2 h3 _ => hK _ _ ?_
  have e1 : scells l ++ [Value.string r] = scells (l ++ [r]) := by simp [scells]
  have e2 : l.length + 1 = (l ++ [r]).length := by simp
  rw [e1] at h2
  obtain ⟨g, cap, hv, _, _⟩ := World.ownsRow.form h2 (by omega)
  simp only [Value.slice.injEq] at hv
  obtain ⟨rfl, _, _⟩ := hv
  rw [e2] at h2 ⊢
  exact h g c' w' h2 h3


theorem OwnS.kept {w w' : World} {B c : Nat} {v : Value} {l : List ByteArray} (h : OwnS w B v l) (hg : w.grownBy w' (some c)) (hne : v.ownBlock ≠ some c) : OwnS w' B v l := by
  refine ⟨h.1, ?_⟩
  rcases h.2 with hn | ⟨g, cap, cur, hv, hbg, hg', rest⟩
  · exact .inl hn
  · refine .inr ⟨g, cap, cur, hv, hbg, (hg.block g (Array.getElem?_eq_some_iff.1 hg').1 (fun e => hne ?_)).trans hg', rest⟩
    rw [hv]
    exact e
/-- the shelf c stands for what `look` tells: m the contents' blocks, pv their lists' values, ps what these hold -/
structure Shelf (w : World) (B c n q : Nat) (look : List UInt8 → Option ByteArray) (m : List UInt8 → Option Nat) (pv : List UInt8 → Value) (ps : List UInt8 → List ByteArray) : Prop where
  map : MapS w c n m
  dom : ∀ x, (m x).isSome = (look x).isSome
  blk : ∀ x b d, m x = some b → look x = some d → Blk w b (.cells #[pv x, .int .i64 d.size] 76)
  own : ∀ x d, look x = some d → OwnS w B (pv x) (ps x) ∧ ((ps x).map key).flatten = key d ∧ (ps x).length ≤ q
  inj : ∀ x y b, m x = some b → m y = some b → x = y
  apart : ∀ x y, x ≠ y → (look x).isSome = true → (look y).isSome = true → (pv x).ownBlock = none ∨ (pv x).ownBlock ≠ (pv y).ownBlock
  low : ∀ x b, m x = some b → B ≤ b
  lowc : B ≤ c
theorem Shelf.below {w w' : World} {B c n q : Nat} {look : List UInt8 → Option ByteArray} {m : List UInt8 → Option Nat} {pv : List UInt8 → Value} {ps : List UInt8 → List ByteArray} (h : Shelf w B c n q look m pv ps) (hb : Below w.heap.size w w') : Shelf w' B c n q look m pv ps :=
  ⟨h.map.below hb, h.dom, fun x b d h1 h2 => (h.blk x b d h1 h2).below hb, fun x d h1 => ⟨(h.own x d h1).1.below hb, (h.own x d h1).2⟩, h.inj, h.apart, h.low, h.lowc⟩
theorem OwnS.notMap {w : World} {B c : Nat} {v : Value} {l : List ByteArray} (h : OwnS w B v l) (hm : ∃ es clock, w.heap[c]? = some (.map es clock)) : v.ownBlock ≠ some c := fun e => by
  obtain ⟨es, clock, hc⟩ := hm
  rcases h.2 with ⟨hv, _⟩ | ⟨g, cap, cur, hv, _, hg, _⟩
  · rw [hv] at e; cases e
  · rw [hv] at e
    have : g = c := by simpa [Value.ownBlock] using e
    subst this
    rw [hc] at hg
    cases hg
/-- the map alone is turned: names are taken away, or stand for another's content -/
theorem Shelf.turn {w w' : World} {B c n n' q : Nat} {look look' : List UInt8 → Option ByteArray} {m m' : List UInt8 → Option Nat} {pv : List UInt8 → Value} {ps : List UInt8 → List ByteArray} (h : Shelf w B c n q look m pv ps)
    (f : List UInt8 → Option (List UInt8)) (hf : ∀ x y z, f x = some z → f y = some z → x = y) (hm : ∀ x, m' x = (f x).bind m) (hl : ∀ x, look' x = (f x).bind look) (hM : MapS w' c n' m') (hG : w.grownBy w' (some c)) :
    Shelf w' B c n' q look' m' (fun x => pv ((f x).getD [])) (fun x => ps ((f x).getD [])) := by
  have hmap := h.map.isMap
  have get : ∀ x b, m' x = some b → ∃ z, f x = some z ∧ m z = some b := fun x b hx => by
    rw [hm] at hx
    exact Option.bind_eq_some_iff.1 hx
  have getl : ∀ x d, look' x = some d → ∃ z, f x = some z ∧ look z = some d := fun x d hx => by
    rw [hl] at hx
    exact Option.bind_eq_some_iff.1 hx
  refine ⟨hM, fun x => ?_, fun x b d h1 h2 => ?_, fun x d h1 => ?_, fun x y b h1 h2 => ?_, fun x y hne h1 h2 => ?_, fun x b h1 => ?_, h.lowc⟩
  · rw [hm, hl]
    cases e : f x with
    | none => rfl
    | some z => exact h.dom z
  · obtain ⟨z, e1, e2⟩ := get x b h1
    obtain ⟨z', e3, e4⟩ := getl x d h2
    obtain rfl : z = z' := by rw [e1] at e3; exact Option.some.inj e3
    have hb := h.blk z b d e2 e4
    simp only [e1, Option.getD_some]
    refine (hG.block b hb.lt (fun e => ?_)).trans hb
    obtain ⟨es, clock, hc⟩ := hmap
    have e' : b = c := Option.some.inj e
    unfold Blk at hb
    rw [e', hc] at hb
    cases hb
  · obtain ⟨z, e1, e2⟩ := getl x d h1
    simp only [e1, Option.getD_some]
    have ho := h.own z d e2
    exact ⟨ho.1.kept hG (ho.1.notMap hmap), ho.2⟩
  · obtain ⟨z, e1, e2⟩ := get x b h1
    obtain ⟨z', e3, e4⟩ := get y b h2
    have := h.inj z z' b e2 e4
    subst this
    exact hf x y z e1 e3
  · obtain ⟨d, hd⟩ := Option.isSome_iff_exists.1 h1
    obtain ⟨d', hd'⟩ := Option.isSome_iff_exists.1 h2
    obtain ⟨z, e1, e2⟩ := getl x d hd
    obtain ⟨z', e3, e4⟩ := getl y d' hd'
    simp only [e1, e3, Option.getD_some]
    exact h.apart z z' (fun e => hne (hf x y z e1 (by rw [e]; exact e3))) (by rw [e2]; rfl) (by rw [e4]; rfl)
  · obtain ⟨z, _, e2⟩ := get x b h1
    exact h.low z b e2
end Go.Proofs.Ytcchpeebhkiacaa
/- The shelf: what is there, and what is taken away or renamed. -/
namespace Go.Proofs.Ytcchpeebhkiacaa
open Go Go.RowKit Go.Deep Go.Maps

theorem has_any (s : ByteArray) (c n : Nat) (m : List UInt8 → Option Nat) (w : World) (h : MapS w c n m) (hs : s.size ≤ maxLen) :
    Calls Try.prog 115 #[.map (some c), .string s] w fun e w' => e = .returned (.bool (m (key s)).isSome) ∧ w' = w := by
  have hl := h.look hs
  cases t : m (key s) with
  | none =>
    rw [t] at hl
    simp only [Option.map_none] at hl
    go_enter Try.func115, Try.ntmps115
    go_wp2
    go_ret
    exact ⟨rfl, rfl⟩
  | some p =>
    rw [t] at hl
    simp only [Option.map_some] at hl
    go_enter Try.func115, Try.ntmps115
    go_wp2
    go_ret
    exact ⟨rfl, rfl⟩

set_option maxRecDepth 100000 in
set_option maxHeartbeats 1000000 in
theorem remDo_any (o : OpV) (c n : Nat) (m : List UInt8 → Option Nat) (w : World) (h : MapS w c n m) (hs : o.name.size ≤ maxLen) :
    Calls Try.prog 119 #[o.val, .map (some c)] w fun e w' => e = .returned (.tuple #[]) ∧ MapS w' c n (delS m (key o.name)) ∧ ∃ w1, Below w.heap.size w w1 ∧ w1.grownBy w' (some c) := by
  unfold OpV.val
  have b0 : Below w.heap.size w (w.alloc (.cells #[.int .i64 o.kind, .string o.name, .string o.to, .string o.data] 100)) := (Below.refl _ w).alloc (Nat.le_refl _) _
  obtain ⟨w1, hrun, M1, q1⟩ := (h.below b0).drop hs 0
  clear h
  go_enter Try.func119, Try.ntmps119
  go_wp2
  exact bodyPost_end (v := .tuple #[]) (by simp [results, Try.results119, go_sem]) rfl ⟨rfl, M1, _, b0, q1⟩

theorem grown_trans {w a b : World} {c : Nat} (h : w.grownBy a (some c)) (k : a.grownBy b (some c)) : w.grownBy b (some c) :=
  ⟨k.os.trans h.os, k.tape.trans h.tape, k.output.trans h.output, Nat.le_trans h.size k.size, fun i hi hne => (k.block i (Nat.lt_of_lt_of_le hi h.size) hne).trans (h.block i hi hne)⟩
set_option maxRecDepth 100000 in
set_option maxHeartbeats 1000000 in
theorem renDo_any (o : OpV) (c n p : Nat) (m : List UInt8 → Option Nat) (w : World) (h : MapS w c n m) (hp : m (key o.name) = some p) (hs : o.name.size ≤ maxLen) (ht : o.to.size ≤ maxLen) (hn : n < maxLen) :
    Calls Try.prog 116 #[o.val, .map (some c)] w fun e w' => e = .returned (.tuple #[]) ∧ MapS w' c (n + 1) (setS (delS m (key o.name)) (key o.to) p) ∧ ∃ w1, Below w.heap.size w w1 ∧ w1.grownBy w' (some c) := by
  unfold OpV.val
  have b0 : Below w.heap.size w (w.alloc (.cells #[.int .i64 o.kind, .string o.name, .string o.to, .string o.data] 99)) := (Below.refl _ w).alloc (Nat.le_refl _) _
  have A0 := Blk.new w (.cells #[.int .i64 o.kind, .string o.name, .string o.to, .string o.data] 99)
  have hl := (h.below b0).look hs
  rw [hp] at hl
  simp only [Option.map_some] at hl
  obtain ⟨w1, hrun, M1, q1⟩ := (h.below b0).drop hs 0
  obtain ⟨w2, hrun2, M2, q2⟩ := M1.update ht hn p
  have A1 : Blk w1 w.heap.size (.cells #[.int .i64 o.kind, .string o.name, .string o.to, .string o.data] 99) := (q1.block _ A0.lt (fun e => by have e1 : w.heap.size = c := Option.some.inj e; have := h.lt; omega)).trans A0
  obtain ⟨x0, x1, x2, x3⟩ := A1.four
  have Q := hid (grown_trans q1 q2)
  have HM2 := hid M2
  clear h hp M1 M2 q1 q2 A0 A1
  go_enter Try.func116, Try.ntmps116
  go_wp2
  exact bodyPost_end (v := .tuple #[]) (by simp [results, Try.results116, go_sem]) rfl ⟨rfl, HM2.out, _, b0, Q.out⟩
end Go.Proofs.Ytcchpeebhkiacaa
/- The shelf: a new content under a name. -/
namespace Go.Proofs.Ytcchpeebhkiacaa
open Go Go.RowKit Go.Deep Go.Maps

def setL (look : List UInt8 → Option ByteArray) (k : List UInt8) (d : ByteArray) (x : List UInt8) : Option ByteArray := if k = x then some d else look x
theorem OwnS.block_lt {w : World} {B : Nat} {v : Value} {l : List ByteArray} (h : OwnS w B v l) : ∀ g, v.ownBlock = some g → g < w.heap.size := fun g hg => (World.ownsRow.lt h g hg).2
theorem Shelf.put {wr W w' : World} {B c n n' q : Nat} {look : List UInt8 → Option ByteArray} {m : List UInt8 → Option Nat} {pv : List UInt8 → Value} {ps : List UInt8 → List ByteArray} (h : Shelf wr B c n q look m pv ps) (hb : Below wr.heap.size wr W)
    (s : List UInt8) (d : ByteArray) (b : Nat) (v : Value) (l : List ByteArray) (hbl : Blk W b (.cells #[v, .int .i64 d.size] 76)) (hnew : wr.heap.size ≤ b) (hB : B ≤ wr.heap.size)
    (hown : OwnS W B v l) (hj : (l.map key).flatten = key d) (hq : l.length ≤ q) (hv : ∀ g, v.ownBlock = some g → wr.heap.size ≤ g)
    (hM : MapS w' c n' (setS m s b)) (hG : W.grownBy w' (some c)) :
    Shelf w' B c n' q (setL look s d) (setS m s b) (fun x => if s = x then v else pv x) (fun x => if s = x then l else ps x) := by
  have hc : c < wr.heap.size := h.map.lt
  have H := h.below hb
  have hmap := H.map.isMap
  have low : ∀ x b', m x = some b' → b' < wr.heap.size := fun x b' hx => by
    have hs : (look x).isSome = true := by rw [← h.dom x, hx]; rfl
    obtain ⟨d', hd'⟩ := Option.isSome_iff_exists.1 hs
    exact (h.blk x b' d' hx hd').lt
  refine ⟨hM, fun x => ?_, fun x b' d' h1 h2 => ?_, fun x d' h1 => ?_, fun x y b' h1 h2 => ?_, fun x y hne h1 h2 => ?_, fun x b' h1 => ?_, h.lowc⟩
  · unfold setS setL
    by_cases e : s = x
    · simp [e]
    · simp only [e, if_false]; exact h.dom x
  · unfold setS at h1
    unfold setL at h2
    by_cases e : s = x
    · simp only [e, if_true, Option.some.injEq] at h1 h2 ⊢
      subst h1 h2
      exact (hG.block b hbl.lt (fun e => by have : b = c := Option.some.inj e; omega)).trans hbl
    · simp only [e, if_false] at h1 h2 ⊢
      have hh := H.blk x b' d' h1 h2
      refine (hG.block b' hh.lt (fun e => ?_)).trans hh
      obtain ⟨es, clock, hc'⟩ := hmap
      have e' : b' = c := Option.some.inj e
      unfold Blk at hh
      rw [e', hc'] at hh
      cases hh
  · unfold setL at h1
    by_cases e : s = x
    · simp only [e, if_true, Option.some.injEq] at h1 ⊢
      subst h1
      exact ⟨hown.kept hG (hown.notMap hmap), hj, hq⟩
    · simp only [e, if_false] at h1 ⊢
      have ho := H.own x d' h1
      exact ⟨ho.1.kept hG (ho.1.notMap hmap), ho.2⟩
  · unfold setS at h1 h2
    by_cases e1 : s = x
    · by_cases e2 : s = y
      · exact e1.symm.trans e2
      · rw [if_pos e1, Option.some.injEq] at h1
        rw [if_neg e2] at h2
        have := low y b' h2
        omega
    · by_cases e2 : s = y
      · rw [if_pos e2, Option.some.injEq] at h2
        rw [if_neg e1] at h1
        have := low x b' h1
        omega
      · simp only [e1, e2, if_false] at h1 h2
        exact h.inj x y b' h1 h2
  · unfold setL at h1 h2
    have old : ∀ z, (look z).isSome = true → ∀ g, (pv z).ownBlock = some g → g < wr.heap.size := fun z hz g hg => by
      obtain ⟨d', hd'⟩ := Option.isSome_iff_exists.1 hz
      exact (h.own z d' hd').1.block_lt g hg
    by_cases e1 : s = x
    · by_cases e2 : s = y
      · exact absurd (e1.symm.trans e2) hne
      · rw [if_pos e1, if_neg e2]
        rw [if_neg e2] at h2
        cases hvv : v.ownBlock with
        | none => exact .inl rfl
        | some g =>
          refine .inr (fun e => ?_)
          have g1 := hv g hvv
          have g2 := old y h2 g e.symm
          omega
    · rw [if_neg e1]
      rw [if_neg e1] at h1
      by_cases e2 : s = y
      · rw [if_pos e2]
        cases hvv : (pv x).ownBlock with
        | none => exact .inl rfl
        | some g =>
          refine .inr (fun e => ?_)
          have g1 := hv g e.symm
          have g2 := old x h1 g hvv
          omega
      · rw [if_neg e2]
        rw [if_neg e2] at h2
        exact h.apart x y hne h1 h2
  · unfold setS at h1
    by_cases e : s = x
    · simp only [e, if_true, Option.some.injEq] at h1
      omega
    · simp only [e, if_false] at h1
      exact h.low x b' h1
end Go.Proofs.Ytcchpeebhkiacaa
