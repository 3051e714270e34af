/- Maps from texts to pointers. -/
import Derived.Test.YtcdhhmedcplblaaDN
import Derived.StringKeys
import Derived.Maps.OwnSet
import Derived.Sort.KeysCollected
namespace Go.Proofs.Ytcdhhmedcplblaa
open Go Go.RowKit Go.Deep Go.Maps

/-- how a pointer to the head of a block reads: the block's number; none: -1 -/
def ptrElem (v : Value) : Option (DataW Unit × List MemPlace) :=
  match v with
  | .pointer none => some (.lit (.int .i64 (-1)), [])
  | .pointer (some ⟨b, 0, none⟩) => some (.lit (.int .i64 (b : Int)), [])
  | _ => none
theorem ptrElem_inv {v : Value} {c : Int} {ps : List MemPlace} (h : ptrElem v = some (.lit (.int .i64 c), ps)) : v = .pointer (if c = -1 then none else some ⟨c.toNat, 0, none⟩) := by
  unfold ptrElem at h
  split at h
  · simp only [Option.some.injEq, Prod.mk.injEq, DataW.lit.injEq, Lit.int.injEq] at h
    rw [if_pos h.1.2.symm]
  · simp only [Option.some.injEq, Prod.mk.injEq, DataW.lit.injEq, Lit.int.injEq] at h
    obtain ⟨⟨_, e⟩, _⟩ := h
    rw [if_neg (by omega), ← e]
    simp
  · cases h

theorem keyedS : Keyed Try.prog 9 := string_keyed Try.underlying9
theorem keyS {s : ByteArray} (hs : s.size ≤ maxLen) : keyOf Try.prog 9 (.string s) = some (.string (key s)) := WideMaps.keyOf_string_mk Try.underlying9 hs
/-- block b is a map from texts to pointers at heads of blocks -/
def MapS (w : World) (b n : Nat) (m : List UInt8 → Option Nat) : Prop :=
  ∃ D : DataW Unit, w.ownsMap Try.prog 9 ptrElem b n D ∧ IsMap D ∧
    ∀ x, Maps.has D (.string x) = (m x).isSome ∧ ∀ v, m x = some v → D.atKey (.string x) (.lit (.int .i64 (-1))) = .lit (.int .i64 (v : Int))
theorem MapS.made (w : World) : MapS (w.alloc (.map #[] 0)) w.heap.size 0 (fun _ => none) :=
  ⟨.map [], World.ownsMap_made _ _ _ _, isMap_empty, fun x => ⟨rfl, fun v h => by cases h⟩⟩
theorem MapS.of_block {w w' : World} {b n : Nat} {m : List UInt8 → Option Nat} (h : MapS w b n m) (e : w'.heap[b]? = w.heap[b]?) : MapS w' b n m := by
  obtain ⟨D, ⟨es, clock, hb, F, hs, hD⟩, r⟩ := h
  exact ⟨D, ⟨es, clock, e.trans hb, F, hs, hD⟩, r⟩
theorem MapS.lt {w : World} {b n : Nat} {m : List UInt8 → Option Nat} (h : MapS w b n m) : b < w.heap.size := by
  obtain ⟨D, h1, _⟩ := h
  exact h1.lt
theorem MapS.below {w w' : World} {b n : Nat} {m : List UInt8 → Option Nat} (h : MapS w b n m) (hb : Below w.heap.size w w') : MapS w' b n m := h.of_block (hb.block b h.lt)
theorem MapS.isMap {w : World} {b n : Nat} {m : List UInt8 → Option Nat} (h : MapS w b n m) : ∃ es clock, w.heap[b]? = some (.map es clock) := by
  obtain ⟨D, ⟨es, clock, hb, _⟩, _⟩ := h
  exact ⟨es, clock, hb⟩
def setS (m : List UInt8 → Option Nat) (k : List UInt8) (v : Nat) (x : List UInt8) : Option Nat := if k = x then some v else m x
def delS (m : List UInt8 → Option Nat) (k : List UInt8) (x : List UInt8) : Option Nat := if k = x then none else m x
theorem MapS.put {D : DataW Unit} {m : List UInt8 → Option Nat} {k : List UInt8} {v : Nat} (h2 : IsMap D)
    (h3 : ∀ x, Maps.has D (.string x) = (m x).isSome ∧ ∀ v, m x = some v → D.atKey (.string x) (.lit (.int .i64 (-1))) = .lit (.int .i64 (v : Int))) :
    IsMap (D.put (.string k) (.lit (.int .i64 (v : Int)))) ∧
    ∀ x, Maps.has (D.put (.string k) (.lit (.int .i64 (v : Int)))) (.string x) = (setS m k v x).isSome ∧ ∀ u, setS m k v x = some u → (D.put (.string k) (.lit (.int .i64 (v : Int)))).atKey (.string x) (.lit (.int .i64 (-1))) = .lit (.int .i64 (u : Int)) := by
  refine ⟨h2.put _ _, fun x => ?_⟩
  by_cases e : k = x
  · subst e
    refine ⟨?_, fun u hu => ?_⟩
    · rw [has_put_same h2 (by trivial)]; simp [setS]
    · simp [setS] at hu
      subst hu
      exact atKey_put_same h2 (by trivial) _ _
  · have hne : (Lit.string x) ≠ (Lit.string k) := by simp; exact fun h => e h.symm
    refine ⟨?_, fun u hu => ?_⟩
    · rw [has_put_other hne]; simp [setS, e]; exact (h3 x).1
    · simp [setS, e] at hu
      rw [atKey_put_other hne]
      exact (h3 x).2 u hu
theorem zeroP (w : World) : (zeroValue 98).run Try.prog w = .ok (.pointer none) w := by kernel_rfl
theorem MapS.look {w : World} {b n : Nat} {m : List UInt8 → Option Nat} {s : ByteArray} (h : MapS w b n m) (hs : s.size ≤ maxLen) :
    (Instr.lookup 75 (.map (some b)) (.string s) false).run Try.prog w = .ok (.pointer ((m (key s)).map fun p => ⟨p, 0, none⟩)) w := by
  obtain ⟨D, hown, hD, hall⟩ := h
  obtain ⟨v, ps, hrun, hv⟩ := hown.lookup keyedS Try.underlying75 (zeroP w) (zd := .lit (.int .i64 (-1))) (zp := []) rfl (keyS hs)
  obtain ⟨h1, h2⟩ := hall (key s)
  rw [hrun]
  cases hm : m (key s) with
  | none =>
    have : Maps.has D (.string (key s)) = false := by rw [h1, hm]; rfl
    rw [atKey_of_not_has this] at hv
    rw [ptrElem_inv hv]
    rfl
  | some p =>
    rw [h2 p hm] at hv
    rw [ptrElem_inv hv, if_neg (by omega)]
    simp
theorem MapS.update {w : World} {b n : Nat} {m : List UInt8 → Option Nat} {s : ByteArray} (h : MapS w b n m) (hs : s.size ≤ maxLen) (hn : n < maxLen) (p : Nat) :
    ∃ w', (Instr.mapUpdate 75 (.map (some b)) (.string s) (.pointer (some ⟨p, 0, none⟩))).run Try.prog w = .ok () w' ∧ MapS w' b (n + 1) (setS m (key s) p) ∧ w.grownBy w' (some b) := by
  obtain ⟨D, hown, hD, hall⟩ := h
  obtain ⟨w', hrun, r1, r2⟩ := hown.update keyedS Try.underlying75 hn (keyS hs) (val := .pointer (some ⟨p, 0, none⟩)) (d := .lit (.int .i64 (p : Int))) (ps := []) rfl
  have hp := MapS.put (k := key s) (v := p) hD hall
  exact ⟨w', hrun, ⟨_, r1, hp.1, hp.2⟩, r2⟩
theorem MapS.drop {w : World} {b n : Nat} {m : List UInt8 → Option Nat} {s : ByteArray} (h : MapS w b n m) (hs : s.size ≤ maxLen) (ty : TypeId) :
    ∃ w', (Builtin.delete_ #[75, 9] ty #[.map (some b), .string s]).run Try.prog w = .ok (.tuple #[]) w' ∧ MapS w' b n (delS m (key s)) ∧ w.grownBy w' (some b) := by
  obtain ⟨D, hown, hD, hall⟩ := h
  have hd := hown.drop keyedS Try.underlying75 (keyS hs) ty
  obtain ⟨w', hrun, r1, r2⟩ := hd
  refine ⟨w', hrun, ⟨_, r1, r1.isMap, fun x => ?_⟩, r2.grown⟩
  by_cases e : key s = x
  · subst e
    refine ⟨?_, fun v hv => ?_⟩
    · rw [has_del_same]; simp [delS]
    · simp [delS] at hv
  · have hne : (Lit.string x) ≠ (Lit.string (key s)) := by simp; exact fun h => e h.symm
    refine ⟨?_, fun v hv => ?_⟩
    · rw [has_del_other hne]; simp [delS, e]; exact (hall x).1
    · simp [delS, e] at hv
      rw [atKey_del_other hne]
      exact (hall x).2 v hv
/-- a text that is a key, as its bytes -/
def strOf (l : Lit) : List UInt8 := match l with | .string x => x | _ => []
theorem MapS.count {w : World} {b n : Nat} {m : List UInt8 → Option Nat} (h : MapS w b n m) (ty : TypeId) :
    ∃ K : List (List UInt8), K.Nodup ∧ (∀ x, x ∈ K ↔ (m x).isSome = true) ∧ K.length ≤ n ∧ (Builtin.len_ #[75] ty #[.map (some b)]).run Try.prog w = .ok (.int .i64 K.length) w := by
  obtain ⟨D, hown, hD, hall⟩ := h
  have hsz := hown.size_le
  have hlen := hown.len Try.underlying75 ty
  obtain ⟨es, hE, hpw, _⟩ := hown.entries keyedS
  obtain ⟨es', hE', hko⟩ := hown.keysOf
  obtain rfl : es = es' := by rw [hE] at hE'; simpa using hE'
  subst hE
  have hk : ∀ p ∈ es, ∃ x, p.1 = .string x := fun p hp => by
    obtain ⟨v, hv⟩ := hko p hp
    obtain ⟨s, _, h2, _⟩ := WideMaps.string_of_keyOf Try.underlying9 hv
    exact ⟨_, h2⟩
  refine ⟨es.map (fun p => strOf p.1), ?_, fun x => ?_, ?_, ?_⟩
  · refine List.pairwise_map.2 (hpw.imp_of_mem fun {p q} hp' hq' hne e => hne ?_)
    obtain ⟨a, ha⟩ := hk p hp'
    obtain ⟨b, hb⟩ := hk q hq'
    rw [ha, hb] at e ⊢
    exact congrArg _ e
  · rw [← (hall x).1, has_eq, List.any_eq_true, List.mem_map]
    constructor
    · rintro ⟨p, hp', rfl⟩
      obtain ⟨a, ha⟩ := hk p hp'
      exact ⟨p, hp', by rw [ha]; simp [Lit.sameKey, strOf]⟩
    · rintro ⟨p, hp', hs⟩
      obtain ⟨a, ha⟩ := hk p hp'
      rw [ha] at hs
      exact ⟨p, hp', by rw [ha]; simpa [Lit.sameKey, strOf] using hs⟩
  · have h2 : (es.map (fun p => strOf p.1)).length = Maps.size (.map es : DataW Unit) := by simp [Maps.size]
    omega
  · have h2 : (es.map (fun p => strOf p.1)).length = Maps.size (.map es : DataW Unit) := by simp [Maps.size]
    rw [h2]
    exact hlen
end Go.Proofs.Ytcdhhmedcplblaa
