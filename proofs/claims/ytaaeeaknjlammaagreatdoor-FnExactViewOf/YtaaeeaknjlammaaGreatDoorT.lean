/- Slices of categories that a call makes: what append leaves. -/
import Derived.Test.YtaaeeaknjlammaaGreatDoorR
import Derived.Test.YtaaeeaknjlammaaGreatDoorZA
import Derived.Deep.AppendLies
import Derived.Laws.OwnMore
import Derived.WideShapes
namespace Go.Proofs.YtaaeeaknjlammaaGreatDoor
open Go.RowKit Go.Deep Go.Maps
open Go.WideShapes (add_plain)

/-- the cells of n categories -/
def catCells (f g : Nat → Int) (n : Nat) : List Value := (List.range (n * 2)).map (pairCell f g)
theorem catCells_length (f g : Nat → Int) (n : Nat) : (catCells f g n).length = n * 2 := by simp [catCells]
theorem catCells_get (f g : Nat → Int) (n j : Nat) (h : j < n * 2) : (catCells f g n)[j]? = some (pairCell f g j) := by simp [catCells, h]
theorem catCells_one (f g : Nat → Int) (n : Nat) : ∀ u ∈ catCells f g n, u.oneCell' = true := by
  intro u hu
  obtain ⟨j, _, rfl⟩ := List.mem_map.1 hu
  unfold pairCell; split <;> rfl

/-- the first n by f, then by f' -/
def glue (n : Nat) (f f' : Nat → Int) (i : Nat) : Int := if i < n then f i else f' (i - n)

theorem catCells_append (f g f' g' : Nat → Int) (n m : Nat) : catCells f g n ++ catCells f' g' m = catCells (glue n f f') (glue n g g') (n + m) := by
  apply List.ext_getElem?
  intro j
  by_cases h1 : j < n * 2
  · rw [List.getElem?_append_left (by rw [catCells_length]; exact h1), catCells_get _ _ _ _ h1, catCells_get _ _ _ _ (by omega)]
    have : j / 2 < n := by omega
    simp [pairCell, glue, this]
  · rw [List.getElem?_append_right (by rw [catCells_length]; omega), catCells_length]
    by_cases h2 : j < (n + m) * 2
    · rw [catCells_get _ _ _ _ (by omega), catCells_get _ _ _ _ h2]
      have a1 : ¬ j / 2 < n := by omega
      have a2 : (j - n * 2) / 2 = j / 2 - n := by omega
      have a3 : (j - n * 2) % 2 = j % 2 := by omega
      simp [pairCell, glue, a1, a2, a3]
    · rw [List.getElem?_eq_none (by rw [catCells_length]; omega), List.getElem?_eq_none (by rw [catCells_length]; omega)]

def OwnCats (w : World) (B : Nat) (v : Value) (n : Nat) (f g : Nat → Int) : Prop := w.ownsRow B 100 2 v n (catCells f g n)

theorem OwnCats.nil (w : World) (B : Nat) (f g : Nat → Int) : OwnCats w B (.slice none 0 0) 0 f g := World.ownsRow_nil _ _ _ _

theorem OwnCats.cats {w : World} {B n c : Nat} {a : Option Addr} {f g : Nat → Int} (h : OwnCats w B (.slice a n c) n f g) : CatsAt w a n f g := fun hn => by
  obtain ⟨gb, cap, hv, _, hlt⟩ := World.ownsRow.form h hn
  simp only [Value.slice.injEq] at hv
  obtain ⟨rfl, _, _⟩ := hv
  have hc := World.ownsRow.cells h (g := gb) rfl
  refine ⟨gb, 0, rfl, hlt, fun i hi => ⟨?_, ?_⟩⟩
  · have t := hc (i * 2) _ (catCells_get f g n (i * 2) (by omega))
    rw [add_plain] at t
    rw [t]
    have e1 : i * 2 % 2 = 0 := by omega
    have e2 : i * 2 / 2 = i := by omega
    simp only [pairCell, e1, e2, if_true]
  · have t := hc (i * 2 + 1) _ (catCells_get f g n (i * 2 + 1) (by omega))
    rw [add_plain, ← Nat.add_assoc] at t
    rw [t]
    have e1 : ¬ (i * 2 + 1) % 2 = 0 := by omega
    have e2 : (i * 2 + 1) / 2 = i := by omega
    simp only [pairCell, e2, if_neg e1]

theorem OwnCats.shape {w : World} {B n : Nat} {v : Value} {f g : Nat → Int} (h : OwnCats w B v n f g) : ∃ a c, v = .slice a n c := by
  rcases h.2 with ⟨rfl, rfl⟩ | ⟨gb, cap, cur, rfl, _⟩
  · exact ⟨_, _, rfl⟩
  · exact ⟨_, _, rfl⟩

theorem news_of_cats {w : World} {b off m : Nat} {f g : Nat → Int} (h : ∀ i, i < m → w.cell? ⟨b, off + i * 2, none⟩ = some (.int .i64 (f i)) ∧ w.cell? ⟨b, off + i * 2 + 1, none⟩ = some (.int .i64 (g i))) :
    ∀ j u, (catCells f g m)[j]? = some u → w.cell? ((⟨b, off, none⟩ : Addr).add j) = some u := by
  intro j u hu
  have hj : j < m * 2 := by
    apply Nat.lt_of_not_le; intro hle
    rw [List.getElem?_eq_none (by rw [catCells_length]; exact hle)] at hu; cases hu
  rw [catCells_get _ _ _ _ hj] at hu
  cases hu
  obtain ⟨h1, h2⟩ := h (j / 2) (by omega)
  rw [add_plain]
  rcases Nat.mod_two_eq_zero_or_one j with e | e
  · have e2 : off + j / 2 * 2 = off + j := by omega
    rw [e2] at h1
    rw [h1]; simp [pairCell, e]
  · have e2 : off + j / 2 * 2 + 1 = off + j := by omega
    rw [e2] at h2
    rw [h2]; simp [pairCell, e]

theorem run_append_cats_some (w : World) (ty B : Nat) (v : Value) (n : Nat) (f g : Nat → Int) (hown : OwnCats w B v n f g) (a : Addr) (m c : Nat) (f' g' : Nat → Int)
    (hnews : ∀ j u, (catCells f' g' m)[j]? = some u → w.cell? (a.add j) = some u) (hm : n + m ≤ 4194304) (hB : B ≤ w.heap.size) :
    ∃ a' c' w', (Builtin.append_ #[37, 37] ty #[v, .slice (some a) m c]).run Tryz.prog w = .ok (.slice a' (n + m) c') w' ∧ OwnCats w' B (.slice a' (n + m) c') (n + m) (glue n f f') (glue n g g') ∧ w.grownBy w' v.ownBlock ∧
      ((Value.slice a' (n + m) c').ownBlock = v.ownBlock ∨ (Value.slice a' (n + m) c').ownBlock = some w.heap.size) := by
  obtain ⟨i0, hi, hz0, hz1, hz2⟩ := info_parts Tryz.info100
  obtain ⟨v', w', hr, h2, h3, _, h5⟩ := run_append_own_at (P := Tryz.prog) w B 37 ty 100 i0 _ 2 16 Tryz.underlying37 hi hz0 hz1 hz2 rfl (by omega) v n (catCells f g n) hown a m c (catCells f' g' m) (catCells_length _ _ _) hnews (catCells_one _ _ _) (by unfold maxLen; omega) (by omega) hB
  rw [catCells_append] at h2
  obtain ⟨a', c', rfl⟩ := OwnCats.shape h2
  exact ⟨a', c', w', hr, h2, h3, h5⟩

theorem run_append_cats (w : World) (ty B : Nat) (v : Value) (n : Nat) (f g : Nat → Int) (hown : OwnCats w B v n f g) (ad : Option Addr) (m c : Nat) (f' g' : Nat → Int) (hc : CatsAt w ad m f' g')
    (hm : n + m ≤ 4194304) (hB : B ≤ w.heap.size) :
    ∃ a' c' w', (Builtin.append_ #[37, 37] ty #[v, .slice ad m c]).run Tryz.prog w = .ok (.slice a' (n + m) c') w' ∧ OwnCats w' B (.slice a' (n + m) c') (n + m) (glue n f f') (glue n g g') ∧ w.grownBy w' v.ownBlock ∧
      ((Value.slice a' (n + m) c').ownBlock = v.ownBlock ∨ (Value.slice a' (n + m) c').ownBlock = some w.heap.size) := by
  by_cases h0 : 0 < m
  · obtain ⟨b, off, rfl, _, hcc⟩ := hc h0
    exact run_append_cats_some w ty B v n f g hown _ m c f' g' (news_of_cats hcc) hm hB
  · obtain rfl : m = 0 := by omega
    cases ad with
    | some a => exact run_append_cats_some w ty B v n f g hown a 0 c f' g' (fun j u hu => by simp [catCells] at hu) hm hB
    | none =>
      obtain ⟨i0, hi, hz0, hz1, hz2⟩ := info_parts Tryz.info100
      have e := catCells_append f g f' g' n 0
      have e0 : catCells f' g' 0 = [] := rfl
      rw [e0, List.append_nil] at e
      have hown' := hown
      unfold OwnCats at hown' ⊢
      rw [e] at hown'
      obtain ⟨a', c', rfl⟩ := OwnCats.shape hown
      refine ⟨a', c', w, ?_, hown', ⟨rfl, rfl, rfl, Nat.le_refl _, fun _ _ _ => rfl⟩, .inl rfl⟩
      obtain ⟨_, hx⟩ := hown
      rcases hx with ⟨hv, rfl⟩ | ⟨gb, cap, cur, hv, _, _, hnc, _⟩
      · simp only [Value.slice.injEq] at hv
        obtain ⟨rfl, _, rfl⟩ := hv
        simp [Builtin.append_, run_underlying Tryz.underlying37, sizeOf, typeInfo, hi, Builtin.lenOf, Builtin.firstCells]
      · simp only [Value.slice.injEq] at hv
        obtain ⟨rfl, _, rfl⟩ := hv
        simp [Builtin.append_, run_underlying Tryz.underlying37, sizeOf, typeInfo, hi, Builtin.lenOf, Builtin.firstCells, hnc, storeCells]

/-- at the operation -/
theorem wp_append_cats {o : Oper} {a : Act} {K : Act → World → Prop} {Q : Exit → Act → World → Prop} (w : World) (s x : Operand)
    (ho : o.op = .call { callee := .builtin .append, args := #[s, x], argTypes := #[37, 37] })
    (B : Nat) (v : Value) (n : Nat) (f g : Nat → Int) (hs : a.eval s = v) (hown : OwnCats w B v n f g) (ad : Option Addr) (m c : Nat) (f' g' : Nat → Int) (hx : a.eval x = .slice ad m c) (hc : CatsAt w ad m f' g')
    (hm : n + m ≤ 4194304) (hB : B ≤ w.heap.size)
    (h : ∀ a' c' w', OwnCats w' B (.slice a' (n + m) c') (n + m) (glue n f f') (glue n g g') → w.grownBy w' v.ownBlock → ((Value.slice a' (n + m) c').ownBlock = v.ownBlock ∨ (Value.slice a' (n + m) c').ownBlock = some w.heap.size) → K (a.put o.dst (.slice a' (n + m) c')) w') : o.wp Tryz.prog a w K Q := by
  obtain ⟨a', c', w', hr, h2, h3, h4⟩ := run_append_cats w o.type B v n f g hown ad m c f' g' hc hm hB
  unfold Oper.wp execOp
  simp only [ho, resolve, invoke, builtin, Sem.run_bind, Sem.run_pure, Result.andThen_ok, List.map_toArray, List.map_cons, List.map_nil, hs, hx, hr]
  exact h a' c' w' h2 h3 h4

theorem wpList_append_cats {ops : Array Oper} {rest : List Oper} {o : Oper} {a : Act} {Q : Exit → Act → World → Prop} (w : World) (hgd : o.guard = none) (s x : Operand)
    (ho : o.op = .call { callee := .builtin .append, args := #[s, x], argTypes := #[37, 37] })
    (B : Nat) (v : Value) (n : Nat) (f g : Nat → Int) (hs : a.eval s = v) (hown : OwnCats w B v n f g) (ad : Option Addr) (m c : Nat) (f' g' : Nat → Int) (hx : a.eval x = .slice ad m c) (hc : CatsAt w ad m f' g')
    (hm : n + m ≤ 4194304) (hB : B ≤ w.heap.size)
    (h : ∀ a' c' w', OwnCats w' B (.slice a' (n + m) c') (n + m) (glue n f f') (glue n g g') → w.grownBy w' v.ownBlock → ((Value.slice a' (n + m) c').ownBlock = v.ownBlock ∨ (Value.slice a' (n + m) c').ownBlock = some w.heap.size) → wpList Tryz.prog ops Q rest (a.put o.dst (.slice a' (n + m) c')) w') : wpList Tryz.prog ops Q (o :: rest) a w :=
  wpList_plain hgd fun _ hK => wp_append_cats w s x ho B v n f g hs hown ad m c f' g' hx hc hm hB fun a' c' w' h2 h3 h4 => hK _ _ (h a' c' w' h2 h3 h4)

theorem step_append_cats {ops : Array Oper} {o : Oper} {a : Act} {K : Act → World → Prop} {Q : Exit → Act → World → Prop} {E : Prop} (w : World) (hgd : o.guard = none) (s x : Operand)
    (ho : o.op = .call { callee := .builtin .append, args := #[s, x], argTypes := #[37, 37] })
    (B : Nat) (v : Value) (n : Nat) (f g : Nat → Int) (hs : a.eval s = v) (hown : OwnCats w B v n f g) (ad : Option Addr) (m c : Nat) (f' g' : Nat → Int) (hx : a.eval x = .slice ad m c) (hc : CatsAt w ad m f' g')
    (hm : n + m ≤ 4194304) (hB : B ≤ w.heap.size)
    (h : ∀ a' c' w', OwnCats w' B (.slice a' (n + m) c') (n + m) (glue n f f') (glue n g g') → w.grownBy w' v.ownBlock → ((Value.slice a' (n + m) c').ownBlock = v.ownBlock ∨ (Value.slice a' (n + m) c').ownBlock = some w.heap.size) → K (a.put o.dst (.slice a' (n + m) c')) w') :
    if Region.wanted o (yielded ops a.tmps) = true then Oper.wp Tryz.prog o a w K Q else E := by
  have hw : Region.wanted o (yielded ops a.tmps) = true := by simp [Region.wanted, hgd]
  rw [if_pos hw]
  exact wp_append_cats w s x ho B v n f g hs hown ad m c f' g' hx hc hm hB h

theorem glue_zero (f f' : Nat → Int) : glue 0 f f' = f' := by funext i; simp [glue]

/-- onto none: what is appended -/
theorem step_append_cats0 {ops : Array Oper} {o : Oper} {a : Act} {K : Act → World → Prop} {Q : Exit → Act → World → Prop} {E : Prop} (w : World) (hgd : o.guard = none) (s x : Operand)
    (ho : o.op = .call { callee := .builtin .append, args := #[s, x], argTypes := #[37, 37] })
    (B : Nat) (v : Value) (f g : Nat → Int) (hs : a.eval s = v) (hown : OwnCats w B v 0 f g) (ad : Option Addr) (m c : Nat) (f' g' : Nat → Int) (hx : a.eval x = .slice ad m c) (hc : CatsAt w ad m f' g')
    (hm : m ≤ 4194304) (hB : B ≤ w.heap.size)
    (h : ∀ a' c' w', OwnCats w' B (.slice a' m c') m f' g' → w.grownBy w' v.ownBlock → ((Value.slice a' m c').ownBlock = v.ownBlock ∨ (Value.slice a' m c').ownBlock = some w.heap.size) → K (a.put o.dst (.slice a' m c')) w') :
    if Region.wanted o (yielded ops a.tmps) = true then Oper.wp Tryz.prog o a w K Q else E := by
  refine step_append_cats w hgd s x ho B v 0 f g hs hown ad m c f' g' hx hc (by omega) hB ?_
  rw [glue_zero, glue_zero, Nat.zero_add]
  exact h
end Go.Proofs.YtaaeeaknjlammaaGreatDoor
