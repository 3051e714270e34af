/- Lists of texts that a call owns; decimals of the program; a call within a region that draws its order. -/
import Derived.Test.YtcpphobokdkkeaaDoorMB
import Derived.Test.YtcpphobokdkkeaaDoorNGQ
import Derived.Deep.RegionLaw
namespace Go.Proofs.YtcpphobokdkkeaaDoor
open Go Go.RowKit Go.Deep Go.Maps
open Go.WideShapes (add_plain)

theorem hid {p : Prop} (h : p) : Hid p := h
theorem then_ {w a b : World} (h : Below w.heap.size w a) (k : Below a.heap.size a b) : Below w.heap.size w b := h.trans (k.mono h.size)
theorem below_grown {a b : World} {B : Nat} {P : Option Nat} (h : a.grownBy b P) (hB : B ≤ a.heap.size) (hp : ∀ x, P = some x → B ≤ x) : Below B a b :=
  ⟨h.os, h.tape, h.output, h.size, fun k hk => h.block k (by omega) (fun e => by have := hp k (by first | exact e | exact e.symm); omega)⟩
theorem Tryd.info9 : (Tryd.prog.info? 9).map (fun i => (i.zero, i.size, i.bytes)) = some (some (.string ⟨#[]⟩), 1, 16) := by kernel_rfl
def scells (l : List ByteArray) : List Value := l.map Value.string
def OwnS (w : World) (B : Nat) (v : Value) (l : List ByteArray) : Prop := w.ownsRow B 9 1 v l.length (scells l)
theorem OwnS.below {w w' : World} {B : Nat} {v : Value} {l : List ByteArray} (h : OwnS w B v l) (hb : Below w.heap.size w w') : OwnS w' B v l := by
  refine ⟨h.1, ?_⟩
  rcases h.2 with hn | ⟨g, cap, cur, hv, hbg, hg, rest⟩
  · exact .inl hn
  · exact .inr ⟨g, cap, cur, hv, hbg, (hb.block g (Array.getElem?_eq_some_iff.1 hg).1).trans hg, rest⟩
theorem OwnS.alloc {w : World} {B : Nat} {v : Value} {l : List ByteArray} (h : OwnS w B v l) (o : Obj) : OwnS (w.alloc o) B v l := World.ownsRow.alloc h o
theorem one_str {w : World} (x : ByteArray) : LiesC (w.alloc (.cells #[.string x] 9)) (some ⟨w.heap.size, 0, none⟩) 1 [.string x] := fun _ =>
  ⟨w.heap.size, 0, rfl, by simp, fun j u hu => by
    cases j with
    | zero => simp at hu; subst hu; simp
    | succ j => simp at hu⟩
theorem three_str {w : World} (x y z : ByteArray) : LiesC (w.alloc (.cells #[.string x, .string y, .string z] 9)) (some ⟨w.heap.size, 0, none⟩) 3 [.string x, .string y, .string z] := fun _ =>
  ⟨w.heap.size, 0, rfl, by simp, fun j u hu => by
    match j with
    | 0 => simp at hu; subst hu; simp
    | 1 => simp at hu; subst hu; simp
    | 2 => simp at hu; subst hu; simp
    | j + 3 => simp at hu⟩
theorem wpList_append_str {ops : Array Oper} {rest : List Oper} {o : Oper} {a : Act} {Q : Exit → Act → World → Prop} (w : World) (hgd : o.guard = none) (s x : Operand)
    (ho : o.op = .call { callee := .builtin .append, args := #[s, x], argTypes := #[46, 46] })
    (B : Nat) (v : Value) (l : List ByteArray) (hs : a.eval s = v) (hown : OwnS w B v l) (ad : Option Addr) (c : Nat) (r : ByteArray) (hx : a.eval x = .slice ad 1 c) (hc : LiesC w ad 1 [.string r])
    (hm : l.length ≤ 2000000) (hB : B ≤ w.heap.size)
    (h : ∀ g c' w', OwnS w' B (.slice (some ⟨g, 0, none⟩) (l ++ [r]).length c') (l ++ [r]) → w.grownBy w' v.ownBlock → wpList Tryd.prog ops Q rest (a.put o.dst (.slice (some ⟨g, 0, none⟩) (l ++ [r]).length c')) w') : wpList Tryd.prog ops Q (o :: rest) a w := by
  refine wpList_plain hgd fun _ hK => wp_append_gen Tryd.underlying46 Tryd.info9 rfl (by omega) w s x ho B v l.length _ hs hown ad 1 c [.string r] hx (by simp) hc (fun u hu => by simp at hu; subst hu; rfl) (by omega) (by omega) hB fun a' c' w' h2 h3 _ => hK _ _ ?_
  have e1 : scells l ++ [Value.string r] = scells (l ++ [r]) := by simp [scells]
  have e2 : l.length + 1 = (l ++ [r]).length := by simp
  rw [e1] at h2
  obtain ⟨g, cap, hv, _, _⟩ := World.ownsRow.form h2 (by omega)
  simp only [Value.slice.injEq] at hv
  obtain ⟨rfl, _, _⟩ := hv
  rw [e2] at h2 ⊢
  exact h g c' w' h2 h3
theorem step_append3 {ops : Array Oper} {o : Oper} {a : Act} {w : World} {K : Act → World → Prop} {Q : Exit → Act → World → Prop} {E : Prop} (hgd : o.guard = none) (s x : Operand)
    (ho : o.op = .call { callee := .builtin .append, args := #[s, x], argTypes := #[46, 46] })
    (B : Nat) (v : Value) (l : List ByteArray) (hs : a.eval s = v) (hown : OwnS w B v l) (ad : Option Addr) (c : Nat) (r1 r2 r3 : ByteArray) (hx : a.eval x = .slice ad 3 c) (hc : LiesC w ad 3 [.string r1, .string r2, .string r3])
    (hm : l.length ≤ 2000000) (hB : B ≤ w.heap.size)
    (h : ∀ g c' w', OwnS w' B (.slice (some ⟨g, 0, none⟩) (l ++ [r1, r2, r3]).length c') (l ++ [r1, r2, r3]) → w.grownBy w' v.ownBlock → K (a.put o.dst (.slice (some ⟨g, 0, none⟩) (l ++ [r1, r2, r3]).length c')) w') :
    if Region.wanted o (yielded ops a.tmps) = true then Oper.wp Tryd.prog o a w K Q else E := by
  have hw : Region.wanted o (yielded ops a.tmps) = true := by simp [Region.wanted, hgd]
  rw [if_pos hw]
  refine wp_append_gen Tryd.underlying46 Tryd.info9 rfl (by omega) w s x ho B v l.length _ hs hown ad 3 c [.string r1, .string r2, .string r3] hx (by simp) hc (fun u hu => by simp at hu; rcases hu with rfl | rfl | rfl <;> rfl) (by omega) (by omega) hB fun a' c' w' h2 h3 _ => ?_
  have e1 : scells l ++ [Value.string r1, Value.string r2, Value.string r3] = scells (l ++ [r1, r2, r3]) := by simp [scells]
  have e2 : l.length + 3 = (l ++ [r1, r2, r3]).length := by simp
  rw [e1] at h2
  obtain ⟨g, cap, hv, _, _⟩ := World.ownsRow.form h2 (by omega)
  simp only [Value.slice.injEq] at hv
  obtain ⟨rfl, _, _⟩ := hv
  rw [e2] at h2 ⊢
  exact h g c' w' h2 h3

/-- numbers lie there -/
def decB (x : Int) : ByteArray := ⟨(decL x.toNat).toArray⟩
theorem dec_any (x : Int) (w : World) (h0 : 0 ≤ x) (h1 : x ≤ 10000000000) (ht : Tab w) : Calls Tryd.prog 43 #[.int .i64 x] w fun e w' => e = .returned (.string (decB x)) ∧ Below w.heap.size w w' := decimal_any x w h0 h1 ht

set_option maxRecDepth 100000 in
set_option maxHeartbeats 1000000 in
theorem decimals_any (b n cap : Nat) (f : Nat → Int) (w : World) (hn : n ≤ 1000) (hb : b < w.heap.size) (hc : ∀ i, i < n → w.cell? ⟨b, i, none⟩ = some (.int .i64 (f i))) (hr : ∀ i, i < n → 0 ≤ f i ∧ f i ≤ 10000000000) (ht : Tab w) :
    Calls Tryd.prog 20 #[.slice (some ⟨b, 0, none⟩) n cap] w fun e w' => ∃ a c, e = .returned (.slice a n c) ∧ OwnS w' w.heap.size (.slice a n c) ((List.range n).map fun i => decB (f i)) ∧ Below w.heap.size w w' := by
  have HC := hid hc
  have HR := hid hr
  have HT := hid ht
  clear hc hr ht
  go_enter Tryd.func20, Tryd.ntmps20
  go_wp2
  go_loopw [3, 8] (fun v i wr => ∃ k : Nat, k ≤ n ∧ i = .int .i64 k ∧ (∃ a c, v = .slice a k c) ∧ OwnS wr w.heap.size v ((List.range k).map fun i => decB (f i)) ∧ Below w.heap.size w wr) (fun _ i _ => n - (intOf i).toNat)
  case atStart => exact ⟨0, Nat.zero_le _, rfl, ⟨_, _, rfl⟩, World.ownsRow_nil _ _ _ _, Below.refl _ _⟩
  case round =>
    obtain ⟨k, hk, rfl, ⟨a, c, rfl⟩, hO, hB⟩ := hrel
    have OO := hid hO
    clear hO
    by_cases hlt : k < n
    · have c1 : wr.cell? ⟨b, k, none⟩ = some (.int .i64 (f k)) := (hB.cell (p := ⟨b, k, none⟩) hb).trans (HC.out k hlt)
      obtain ⟨r0, r1⟩ := HR.out k hlt
      have D := hid (dec_any (f k) wr r0 r1 (HT.out.below hB))
      have i1 : (k : Int) < (n : Int) := by omega
      have EX : Hid (((List.range k).map fun i => decB (f i)) ++ [decB (f k)] = (List.range (k + 1)).map fun i => decB (f i)) := by show _ = _; rw [List.range_succ, List.map_append]; rfl
      have lm : ((List.range k).map fun i => decB (f i)).length = k := by simp
      generalize ((List.range k).map fun i => decB (f i)) = L at *
      generalize decB (f k) = X at *
      have lm2 : L.length ≤ 2000000 := by omega
      go_wp2_with (first
        | (go_at_call 43; refine D.out.mono ?_; rintro e w3 ⟨rfl, h3⟩; have HO3 := hid ((OO.out.below h3).alloc (.cells #[.string X] 9)); have HL3 := hid (one_str (w := w3) X); have sz3 := hid (Nat.le_trans (then_ hB h3).size (show w3.heap.size ≤ (w3.alloc (.cells #[.string X] 9)).heap.size by rw [World.size_alloc]; exact Nat.le_succ _)))
        | (at_builtin; refine wpList_append_str _ rfl _ _ rfl w.heap.size _ L rfl HO3.out _ 1 X rfl HL3.out lm2 sz3.out ?_; intro g4 c4 w4 O4 hg4; have OX4 := hid O4; have GX4 := hid hg4; clear O4 hg4))
      have B3 := then_ hB h3
      have B4 : Below w.heap.size w w4 := (B3.alloc B3.size (.cells #[.string X] 9)).trans (below_grown GX4.out sz3.out (fun j hj => (World.ownsRow.lt HO3.out j hj).1))
      have el : (L ++ [X]).length = k + 1 := by simp [lm]
      have OF := OX4.out
      rw [el, EX.out] at OF
      exact ⟨⟨k + 1, by omega, rfl, ⟨_, c4, rfl⟩, OF, B4⟩, by simp [intOf]; omega⟩
    · have ek : k = n := by omega
      subst ek
      go_wp2
      go_ret
      exact ⟨a, c, rfl, OO.out, hB⟩
end Go.Proofs.YtcpphobokdkkeaaDoor
