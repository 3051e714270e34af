/- Owned categories: ownsOk of the program and l2Owns of the model answer the plain function ownOk. -/
import Derived.Test.YtkoinmddcnnipaaZ0
import Derived.Deep.AppendLies
import Derived.Laws.OwnMore
import Derived.WideShapes
import Derived.Maps.Own
import Derived.Maps.OwnSet
namespace Go.Proofs.Ytkoinmddcnnipaa
open Go.RowKit Go.Deep

def ownAt (h : Nat → Int) (i : Nat) : Bool := inB (h i) 1 9999 && (i == 0 || decide (h (i - 1) < h i))
def ownOk (n : Nat) (h : Nat → Int) : Bool := decide (n ≤ 10) && (List.range n).all (ownAt h)

theorem ownOk_len {n : Nat} {h : Nat → Int} (e : 10 < n) : ownOk n h = false := by
  have : decide (n ≤ 10) = false := by simp; omega
  simp [ownOk, this]
theorem ownOk_at {n k : Nat} {h : Nat → Int} (hk : k < n) (e : ownAt h k = false) : ownOk n h = false := by
  have : (List.range n).all (ownAt h) = false := by
    rw [List.all_eq_false]; exact ⟨k, List.mem_range.2 hk, by simp [e]⟩
  simp [ownOk, this]
theorem ownOk_all {n : Nat} {h : Nat → Int} (e : ∀ i, i < n → ownAt h i = true) : ownOk n h = decide (n ≤ 10) := by
  have : (List.range n).all (ownAt h) = true := by
    rw [List.all_eq_true]; intro i hi; exact e i (List.mem_range.1 hi)
  simp [ownOk, this]
theorem ownOk_out {n : Nat} {h : Nat → Int} (e : ownOk n h = true) : n ≤ 10 ∧ ∀ i, i < n → ownAt h i = true := by
  simp only [ownOk, Bool.and_eq_true, decide_eq_true_eq, List.all_eq_true, List.mem_range] at e
  exact e
theorem ownAt_n1 {h : Nat → Int} {k : Nat} (e : inB (h k) 1 9999 = false) : ownAt h k = false := by simp [ownAt, e]
theorem ownAt_n2 {h : Nat → Int} {k : Nat} (h0 : inB (h k) 1 9999 = true) (e : h k ≤ lastOf h k) : ownAt h k = false := by
  have h0 := inB_iff.1 h0
  by_cases e0 : k = 0
  · subst e0; simp [lastOf] at e; omega
  · simp [lastOf, e0] at e
    have : decide (h (k - 1) < h k) = false := by simp; omega
    simp [ownAt, e0, this]
theorem ownAt_y {h : Nat → Int} {k : Nat} (h1 : inB (h k) 1 9999 = true) (h2 : lastOf h k < h k) : ownAt h k = true := by
  by_cases e : k = 0
  · subst e; simp_all [ownAt]
  · simp [lastOf, e] at h2
    simp [ownAt, h1, h2]
theorem ownAt_n5 {h : Nat → Int} {k : Nat} (h0 : 0 < k) (e : h k ≤ h (k - 1)) : ownAt h k = false := by
  have e0 : ¬ k = 0 := by omega
  have : decide (h (k - 1) < h k) = false := by simp; omega
  simp [ownAt, e0, this]
theorem ownAt_y0 {h : Nat → Int} {k : Nat} (h1 : inB (h k) 1 9999 = true) (e : k = 0 ∨ h (k - 1) < h k) : ownAt h k = true := by
  rcases e with e | e <;> simp_all [ownAt]

set_option maxHeartbeats 1000000 in
theorem ownsOk_any (a : Option Addr) (n cap : Nat) (h : Nat → Int) (w : World) (hn : n ≤ maxLen) (hc : IntsAt w a n h) :
    Calls Try.prog 60 #[.slice a n cap] w fun e w' => e = .returned (.bool (ownOk n h)) ∧ w' = w := by
  unfold maxLen at hn
  by_cases h10 : 10 < n
  · have h10' : (10 : Int) < (n : Int) := by omega
    go_enter Try.func60, Try.ntmps60
    go_wp2
    go_ret
    exact ⟨ret_bool (ownOk_len h10).symm, rfl⟩
  · have h10' : ¬ (10 : Int) < (n : Int) := by omega
    go_enter Try.func60, Try.ntmps60
    go_wp2
    go_loop [3, 11] (fun l i => ∃ k : Nat, k ≤ n ∧ i = .int .i64 k ∧ l = .int .i64 (lastOf h k) ∧ (∀ j, j < k → ownAt h j = true)) (fun _ i => n - (intOf i).toNat)
    case atStart => exact ⟨0, Nat.zero_le _, rfl, rfl, fun j hj => by omega⟩
    case round =>
      obtain ⟨k, hk, rfl, rfl, hall⟩ := hrel
      have HA : Hid (∀ j, j < k → ownAt h j = true) := hall
      clear hall
      by_cases hlt' : k < n
      · obtain ⟨b, off, rfl, hlt, hcc⟩ := hc (by omega)
        have g1 := hcc k hlt'
        clear hcc hc
        by_cases t1 : inB (h k) 1 9999 = true
        · go_wp2_with (go_at_call 83; refine (isCat_any _ _).mono ?_; rintro e w' ⟨rfl, rfl⟩)
          · go_ret
            have t2 : h k ≤ lastOf h k := by assumption
            exact ⟨ret_bool (ownOk_at hlt' (ownAt_n2 t1 t2)).symm, rfl⟩
          · have t2 : lastOf h k < h k := by assumption
            go_round
            case rel =>
              refine ⟨k + 1, by omega, by go_num, by rw [lastOf_succ], fun j hj => ?_⟩
              by_cases e : j = k
              · subst e; exact ownAt_y t1 t2
              · exact HA.out j (by omega)
            case measure => simp [intOf]; omega
        · have t1' : inB (h k) 1 9999 = false := by simpa using t1
          clear t1
          go_wp2_with (go_at_call 83; refine (isCat_any _ _).mono ?_; rintro e w' ⟨rfl, rfl⟩)
          go_ret
          exact ⟨ret_bool (ownOk_at hlt' (ownAt_n1 t1')).symm, rfl⟩
      · clear hc
        go_wp2
        go_ret
        have e : k = n := by omega
        subst e
        exact ⟨ret_bool (by rw [ownOk_all HA.out]; simp; omega), rfl⟩

set_option maxHeartbeats 1000000 in
theorem l2Owns_any (a : Option Addr) (n cap : Nat) (h : Nat → Int) (w : World) (hn : n ≤ maxLen) (hc : IntsAt w a n h) :
    Calls Try.prog 50 #[.slice a n cap] w fun e w' => e = .returned (.bool (ownOk n h)) ∧ Below w.heap.size w w' := by
  unfold maxLen at hn
  go_enter Try.func50, Try.ntmps50
  go_wp2
  go_loopw [3] (fun i wr => ∃ k : Nat, k ≤ n ∧ i = .int .i64 k ∧ (∀ j, j < k → ownAt h j = true) ∧ Below w.heap.size w wr) (fun i _ => n - (intOf i).toNat)
  case atStart => exact ⟨0, Nat.zero_le _, rfl, fun j hj => by omega, Below.refl _ _⟩
  case round =>
    obtain ⟨k, hk, rfl, hall, hB⟩ := hrel
    have HA : Hid (∀ j, j < k → ownAt h j = true) := hall
    clear hall
    by_cases hlt' : k < n
    · obtain ⟨b, off, rfl, hlt, hcc⟩ := hc (by omega)
      have g1 : wr.cell? ⟨b, off + k, none⟩ = some (.int .i64 (h k)) := (hB.cell (p := ⟨b, _, none⟩) hlt).trans (hcc k hlt')
      have i0 : (0 : Int) ≤ (k : Int) := by omega
      have i1 : (k : Int) < (n : Int) := by omega
      clear hc
      by_cases t1 : inB (h k) 1 9999 = true
      · by_cases k0 : k = 0
        · have d0 : decide ((0 : Int) < (k : Int)) = false := by simp; omega
          have d1 : decide (0 < k) = false := by simp; omega
          have K0 : Hid (k = 0) := k0
          clear k0 hcc
          go_wp2_with fail
          go_quiet ((go_at_call 34; exact Calls.quiet_of_same (l1In_any _ _ _ _)))
          go_wp2
          go_roundw
          case rel =>
            refine ⟨k + 1, by omega, by go_num, fun j hj => ?_, below_drewN hB _⟩
            by_cases e : j = k
            · subst e; exact ownAt_y0 t1 (.inl K0.out)
            · exact HA.out j (by omega)
          case measure => simp [intOf]; omega
        · obtain ⟨m, rfl⟩ : ∃ m, k = m + 1 := ⟨k - 1, by omega⟩
          have d0 : (0 : Int) < ((m + 1 : Nat) : Int) := by omega
          have q1 : wr.cell? ⟨b, off + m, none⟩ = some (.int .i64 (h m)) := (hB.cell (p := ⟨b, _, none⟩) hlt).trans (hcc m (by omega))
          have j1 : ((m : Nat) : Int) < (n : Int) := by omega
          clear hcc
          by_cases t5 : h (m + 1) ≤ h m
          · have d5 : decide (h (m + 1) ≤ h m) = true := by simpa using t5
            go_wp2_with fail
            go_quiet ((go_at_call 34; exact Calls.quiet_of_same (l1In_any _ _ _ _)))
            go_wp2
            go_ret
            exact ⟨ret_bool (ownOk_at hlt' (ownAt_n5 (by omega) t5)).symm, below_drewN hB _⟩
          · have d5 : decide (h (m + 1) ≤ h m) = false := by simpa using t5
            go_wp2_with fail
            go_quiet ((go_at_call 34; exact Calls.quiet_of_same (l1In_any _ _ _ _)))
            go_wp2
            go_roundw
            case rel =>
              refine ⟨m + 1 + 1, by omega, by go_num, fun j hj => ?_, below_drewN hB _⟩
              by_cases e : j = m + 1
              · subst e; exact ownAt_y0 t1 (.inr (by simpa using t5))
              · exact HA.out j (by omega)
            case measure => simp [intOf]; omega
      · have t1' : inB (h k) 1 9999 = false := by simpa using t1
        clear t1 hcc
        go_wp2_with fail
        go_quiet ((go_at_call 34; exact Calls.quiet_of_same (l1In_any _ _ _ _)))
        go_wp2
        go_ret
        exact ⟨ret_bool (ownOk_at hlt' (ownAt_n1 t1')).symm, below_drewN hB _⟩
    · clear hc
      go_wp2
      go_ret
      have e : k = n := by omega
      subst e
      exact ⟨ret_bool (by rw [ownOk_all HA.out]; exact decide_eq_decide.2 (by omega)), hB⟩
end Go.Proofs.Ytkoinmddcnnipaa
namespace Go.Proofs.Ytkoinmddcnnipaa
open Go.RowKit Go.Deep Go.Maps
open Go.WideShapes (add_plain)
def catCells (f g : Nat → Int) (n : Nat) : List Value := (List.range (n * 2)).map (pairCell f g)
theorem catCells_length (f g : Nat → Int) (n : Nat) : (catCells f g n).length = n * 2 := by simp [catCells]
theorem catCells_get (f g : Nat → Int) (n j : Nat) (h : j < n * 2) : (catCells f g n)[j]? = some (pairCell f g j) := by simp [catCells, h]
theorem catCells_one (f g : Nat → Int) (n : Nat) : ∀ u ∈ catCells f g n, u.oneCell' = true := by
  intro u hu
  obtain ⟨j, _, rfl⟩ := List.mem_map.1 hu
  unfold pairCell; split <;> rfl
def glue (n : Nat) (f f' : Nat → Int) (i : Nat) : Int := if i < n then f i else f' (i - n)

theorem catCells_append (f g f' g' : Nat → Int) (n m : Nat) : catCells f g n ++ catCells f' g' m = catCells (glue n f f') (glue n g g') (n + m) := by
  apply List.ext_getElem?
  intro j
  by_cases h1 : j < n * 2
  · rw [List.getElem?_append_left (by rw [catCells_length]; exact h1), catCells_get _ _ _ _ h1, catCells_get _ _ _ _ (by omega)]
    have : j / 2 < n := by omega
    simp [pairCell, glue, this]
  · rw [List.getElem?_append_right (by rw [catCells_length]; omega), catCells_length]
    by_cases h2 : j < (n + m) * 2
    · rw [catCells_get _ _ _ _ (by omega), catCells_get _ _ _ _ h2]
      have a1 : ¬ j / 2 < n := by omega
      have a2 : (j - n * 2) / 2 = j / 2 - n := by omega
      have a3 : (j - n * 2) % 2 = j % 2 := by omega
      simp [pairCell, glue, a1, a2, a3]
    · rw [List.getElem?_eq_none (by rw [catCells_length]; omega), List.getElem?_eq_none (by rw [catCells_length]; omega)]

def OwnCats (w : World) (B : Nat) (v : Value) (n : Nat) (f g : Nat → Int) : Prop := w.ownsRow B 90 2 v n (catCells f g n)

theorem OwnCats.nil (w : World) (B : Nat) (f g : Nat → Int) : OwnCats w B (.slice none 0 0) 0 f g := World.ownsRow_nil _ _ _ _

theorem OwnCats.cats {w : World} {B n c : Nat} {a : Option Addr} {f g : Nat → Int} (h : OwnCats w B (.slice a n c) n f g) : CatsAt w a n f g := fun hn => by
  obtain ⟨gb, cap, hv, _, hlt⟩ := World.ownsRow.form h hn
  simp only [Value.slice.injEq] at hv
  obtain ⟨rfl, _, _⟩ := hv
  have hc := World.ownsRow.cells h (g := gb) rfl
  refine ⟨gb, 0, rfl, hlt, fun i hi => ⟨?_, ?_⟩⟩
  · have t := hc (i * 2) _ (catCells_get f g n (i * 2) (by omega))
    rw [add_plain] at t
    rw [t]
    have e1 : i * 2 % 2 = 0 := by omega
    have e2 : i * 2 / 2 = i := by omega
    simp only [pairCell, e1, e2, if_true]
  · have t := hc (i * 2 + 1) _ (catCells_get f g n (i * 2 + 1) (by omega))
    rw [add_plain, ← Nat.add_assoc] at t
    rw [t]
    have e1 : ¬ (i * 2 + 1) % 2 = 0 := by omega
    have e2 : (i * 2 + 1) / 2 = i := by omega
    simp only [pairCell, e2, if_neg e1]

theorem OwnCats.shape {w : World} {B n : Nat} {v : Value} {f g : Nat → Int} (h : OwnCats w B v n f g) : ∃ a c, v = .slice a n c := by
  rcases h.2 with ⟨rfl, rfl⟩ | ⟨gb, cap, cur, rfl, _⟩
  · exact ⟨_, _, rfl⟩
  · exact ⟨_, _, rfl⟩

theorem news_of_cats {w : World} {b off m : Nat} {f g : Nat → Int} (h : ∀ i, i < m → w.cell? ⟨b, off + i * 2, none⟩ = some (.int .i64 (f i)) ∧ w.cell? ⟨b, off + i * 2 + 1, none⟩ = some (.int .i64 (g i))) :
    ∀ j u, (catCells f g m)[j]? = some u → w.cell? ((⟨b, off, none⟩ : Addr).add j) = some u := by
  intro j u hu
  have hj : j < m * 2 := by
    apply Nat.lt_of_not_le; intro hle
    rw [List.getElem?_eq_none (by rw [catCells_length]; exact hle)] at hu; cases hu
  rw [catCells_get _ _ _ _ hj] at hu
  cases hu
  obtain ⟨h1, h2⟩ := h (j / 2) (by omega)
  rw [add_plain]
  rcases Nat.mod_two_eq_zero_or_one j with e | e
  · have e2 : off + j / 2 * 2 = off + j := by omega
    rw [e2] at h1
    rw [h1]; simp [pairCell, e]
  · have e2 : off + j / 2 * 2 + 1 = off + j := by omega
    rw [e2] at h2
    rw [h2]; simp [pairCell, e]

theorem run_append_cats_some (w : World) (ty B : Nat) (v : Value) (n : Nat) (f g : Nat → Int) (hown : OwnCats w B v n f g) (a : Addr) (m c : Nat) (f' g' : Nat → Int)
    (hnews : ∀ j u, (catCells f' g' m)[j]? = some u → w.cell? (a.add j) = some u) (hm : n + m ≤ 4194304) (hB : B ≤ w.heap.size) :
    ∃ a' c' w', (Builtin.append_ #[33, 33] ty #[v, .slice (some a) m c]).run Try.prog w = .ok (.slice a' (n + m) c') w' ∧ OwnCats w' B (.slice a' (n + m) c') (n + m) (glue n f f') (glue n g g') ∧ w.grownBy w' v.ownBlock ∧
      ((Value.slice a' (n + m) c').ownBlock = v.ownBlock ∨ (Value.slice a' (n + m) c').ownBlock = some w.heap.size) := by
  obtain ⟨i0, hi, hz0, hz1, hz2⟩ := info_parts Try.info90
  obtain ⟨v', w', hr, h2, h3, _, h5⟩ := run_append_own_at (P := Try.prog) w B 33 ty 90 i0 _ 2 16 Try.underlying33 hi hz0 hz1 hz2 rfl (by omega) v n (catCells f g n) hown a m c (catCells f' g' m) (catCells_length _ _ _) hnews (catCells_one _ _ _) (by unfold maxLen; omega) (by omega) hB
  rw [catCells_append] at h2
  obtain ⟨a', c', rfl⟩ := OwnCats.shape h2
  exact ⟨a', c', w', hr, h2, h3, h5⟩

theorem run_append_cats (w : World) (ty B : Nat) (v : Value) (n : Nat) (f g : Nat → Int) (hown : OwnCats w B v n f g) (ad : Option Addr) (m c : Nat) (f' g' : Nat → Int) (hc : CatsAt w ad m f' g')
    (hm : n + m ≤ 4194304) (hB : B ≤ w.heap.size) :
    ∃ a' c' w', (Builtin.append_ #[33, 33] ty #[v, .slice ad m c]).run Try.prog w = .ok (.slice a' (n + m) c') w' ∧ OwnCats w' B (.slice a' (n + m) c') (n + m) (glue n f f') (glue n g g') ∧ w.grownBy w' v.ownBlock ∧
      ((Value.slice a' (n + m) c').ownBlock = v.ownBlock ∨ (Value.slice a' (n + m) c').ownBlock = some w.heap.size) := by
  by_cases h0 : 0 < m
  · obtain ⟨b, off, rfl, _, hcc⟩ := hc h0
    exact run_append_cats_some w ty B v n f g hown _ m c f' g' (news_of_cats hcc) hm hB
  · obtain rfl : m = 0 := by omega
    cases ad with
    | some a => exact run_append_cats_some w ty B v n f g hown a 0 c f' g' (fun j u hu => by simp [catCells] at hu) hm hB
    | none =>
      obtain ⟨i0, hi, hz0, hz1, hz2⟩ := info_parts Try.info90
      have e := catCells_append f g f' g' n 0
      have e0 : catCells f' g' 0 = [] := rfl
      rw [e0, List.append_nil] at e
      have hown' := hown
      unfold OwnCats at hown' ⊢
      rw [e] at hown'
      obtain ⟨a', c', rfl⟩ := OwnCats.shape hown
      refine ⟨a', c', w, ?_, hown', ⟨rfl, rfl, rfl, Nat.le_refl _, fun _ _ _ => rfl⟩, .inl rfl⟩
      obtain ⟨_, hx⟩ := hown
      rcases hx with ⟨hv, rfl⟩ | ⟨gb, cap, cur, hv, _, _, hnc, _⟩
      · simp only [Value.slice.injEq] at hv
        obtain ⟨rfl, _, rfl⟩ := hv
        simp [Builtin.append_, run_underlying Try.underlying33, sizeOf, typeInfo, hi, Builtin.lenOf, Builtin.firstCells]
      · simp only [Value.slice.injEq] at hv
        obtain ⟨rfl, _, rfl⟩ := hv
        simp [Builtin.append_, run_underlying Try.underlying33, sizeOf, typeInfo, hi, Builtin.lenOf, Builtin.firstCells, hnc, storeCells]
theorem wp_append_cats {o : Oper} {a : Act} {K : Act → World → Prop} {Q : Exit → Act → World → Prop} (w : World) (s x : Operand)
    (ho : o.op = .call { callee := .builtin .append, args := #[s, x], argTypes := #[33, 33] })
    (B : Nat) (v : Value) (n : Nat) (f g : Nat → Int) (hs : a.eval s = v) (hown : OwnCats w B v n f g) (ad : Option Addr) (m c : Nat) (f' g' : Nat → Int) (hx : a.eval x = .slice ad m c) (hc : CatsAt w ad m f' g')
    (hm : n + m ≤ 4194304) (hB : B ≤ w.heap.size)
    (h : ∀ a' c' w', OwnCats w' B (.slice a' (n + m) c') (n + m) (glue n f f') (glue n g g') → w.grownBy w' v.ownBlock → ((Value.slice a' (n + m) c').ownBlock = v.ownBlock ∨ (Value.slice a' (n + m) c').ownBlock = some w.heap.size) → K (a.put o.dst (.slice a' (n + m) c')) w') : o.wp Try.prog a w K Q := by
  obtain ⟨a', c', w', hr, h2, h3, h4⟩ := run_append_cats w o.type B v n f g hown ad m c f' g' hc hm hB
  unfold Oper.wp execOp
  simp only [ho, resolve, invoke, builtin, Sem.run_bind, Sem.run_pure, Result.andThen_ok, List.map_toArray, List.map_cons, List.map_nil, hs, hx, hr]
  exact h a' c' w' h2 h3 h4

theorem wpList_append_cats {ops : Array Oper} {rest : List Oper} {o : Oper} {a : Act} {Q : Exit → Act → World → Prop} (w : World) (hgd : o.guard = none) (s x : Operand)
    (ho : o.op = .call { callee := .builtin .append, args := #[s, x], argTypes := #[33, 33] })
    (B : Nat) (v : Value) (n : Nat) (f g : Nat → Int) (hs : a.eval s = v) (hown : OwnCats w B v n f g) (ad : Option Addr) (m c : Nat) (f' g' : Nat → Int) (hx : a.eval x = .slice ad m c) (hc : CatsAt w ad m f' g')
    (hm : n + m ≤ 4194304) (hB : B ≤ w.heap.size)
    (h : ∀ a' c' w', OwnCats w' B (.slice a' (n + m) c') (n + m) (glue n f f') (glue n g g') → w.grownBy w' v.ownBlock → ((Value.slice a' (n + m) c').ownBlock = v.ownBlock ∨ (Value.slice a' (n + m) c').ownBlock = some w.heap.size) → wpList Try.prog ops Q rest (a.put o.dst (.slice a' (n + m) c')) w') : wpList Try.prog ops Q (o :: rest) a w :=
  wpList_plain hgd fun _ hK => wp_append_cats w s x ho B v n f g hs hown ad m c f' g' hx hc hm hB fun a' c' w' h2 h3 h4 => hK _ _ (h a' c' w' h2 h3 h4)

theorem step_append_cats {ops : Array Oper} {o : Oper} {a : Act} {K : Act → World → Prop} {Q : Exit → Act → World → Prop} {E : Prop} (w : World) (hgd : o.guard = none) (s x : Operand)
    (ho : o.op = .call { callee := .builtin .append, args := #[s, x], argTypes := #[33, 33] })
    (B : Nat) (v : Value) (n : Nat) (f g : Nat → Int) (hs : a.eval s = v) (hown : OwnCats w B v n f g) (ad : Option Addr) (m c : Nat) (f' g' : Nat → Int) (hx : a.eval x = .slice ad m c) (hc : CatsAt w ad m f' g')
    (hm : n + m ≤ 4194304) (hB : B ≤ w.heap.size)
    (h : ∀ a' c' w', OwnCats w' B (.slice a' (n + m) c') (n + m) (glue n f f') (glue n g g') → w.grownBy w' v.ownBlock → ((Value.slice a' (n + m) c').ownBlock = v.ownBlock ∨ (Value.slice a' (n + m) c').ownBlock = some w.heap.size) → K (a.put o.dst (.slice a' (n + m) c')) w') :
    if Region.wanted o (yielded ops a.tmps) = true then Oper.wp Try.prog o a w K Q else E := by
  have hw : Region.wanted o (yielded ops a.tmps) = true := by simp [Region.wanted, hgd]
  rw [if_pos hw]
  exact wp_append_cats w s x ho B v n f g hs hown ad m c f' g' hx hc hm hB h

theorem glue_zero (f f' : Nat → Int) : glue 0 f f' = f' := by funext i; simp [glue]
theorem step_append_cats0 {ops : Array Oper} {o : Oper} {a : Act} {K : Act → World → Prop} {Q : Exit → Act → World → Prop} {E : Prop} (w : World) (hgd : o.guard = none) (s x : Operand)
    (ho : o.op = .call { callee := .builtin .append, args := #[s, x], argTypes := #[33, 33] })
    (B : Nat) (v : Value) (f g : Nat → Int) (hs : a.eval s = v) (hown : OwnCats w B v 0 f g) (ad : Option Addr) (m c : Nat) (f' g' : Nat → Int) (hx : a.eval x = .slice ad m c) (hc : CatsAt w ad m f' g')
    (hm : m ≤ 4194304) (hB : B ≤ w.heap.size)
    (h : ∀ a' c' w', OwnCats w' B (.slice a' m c') m f' g' → w.grownBy w' v.ownBlock → ((Value.slice a' m c').ownBlock = v.ownBlock ∨ (Value.slice a' m c').ownBlock = some w.heap.size) → K (a.put o.dst (.slice a' m c')) w') :
    if Region.wanted o (yielded ops a.tmps) = true then Oper.wp Try.prog o a w K Q else E := by
  refine step_append_cats w hgd s x ho B v 0 f g hs hown ad m c f' g' hx hc (by omega) hB ?_
  rw [glue_zero, glue_zero, Nat.zero_add]
  exact h
end Go.Proofs.Ytkoinmddcnnipaa
namespace Go.Proofs.Ytkoinmddcnnipaa
open Go.RowKit Go.Deep Go.Maps

theorem keyed2 : Keyed Try.prog 2 := int_keyed Try.underlying2
theorem zero2 (w : World) : (zeroValue 2).run Try.prog w = .ok (.int .i64 0) w := by kernel_rfl
def look (f g : Nat → Int) : Nat → Int → Option Int
  | 0, _ => none
  | k + 1, x => if f k = x then some (g k) else look f g k x
def MapIs (w : World) (b n : Nat) (m : Int → Option Int) : Prop :=
  ∃ D : DataW Unit, w.ownsMap Try.prog 2 (plainElem Try.prog 2) b n D ∧ IsMap D ∧
    ∀ x, Maps.has D (.int .i64 x) = (m x).isSome ∧ ∀ v, m x = some v → D.atKey (.int .i64 x) (.lit (.int .i64 0)) = .lit (.int .i64 v)

theorem MapIs.made (w : World) : MapIs (w.alloc (.map #[] 0)) w.heap.size 0 (fun _ => none) :=
  ⟨.map [], World.ownsMap_made _ _ _ _, isMap_empty, fun x => ⟨rfl, fun v h => by cases h⟩⟩

theorem MapIs.of_block {w w' : World} {b n : Nat} {m : Int → Option Int} (h : MapIs w b n m) (e : w'.heap[b]? = w.heap[b]?) : MapIs w' b n m := by
  obtain ⟨D, ⟨es, clock, hb, F, hs, hD⟩, r⟩ := h
  exact ⟨D, ⟨es, clock, e.trans hb, F, hs, hD⟩, r⟩

theorem MapIs.setCell {w : World} {b n : Nat} {m : Int → Option Int} (h : MapIs w b n m) {a : Addr} (ha : b ≠ a.block) (v : Value) : MapIs (w.setCell a v) b n m := h.of_block (blk_setCell_other _ _ _ _ ha)

theorem MapIs.lt {w : World} {b n : Nat} {m : Int → Option Int} (h : MapIs w b n m) : b < w.heap.size := by
  obtain ⟨D, h1, _⟩ := h
  exact h1.lt

theorem MapIs.alloc {w : World} {b n : Nat} {m : Int → Option Int} (h : MapIs w b n m) (o : Obj) : MapIs (w.alloc o) b n m := by
  obtain ⟨D, h1, h2, h3⟩ := h
  exact ⟨D, h1.alloc o, h2, h3⟩

def setAt (m : Int → Option Int) (k v : Int) (x : Int) : Option Int := if k = x then some v else m x

theorem MapIs.put {D : DataW Unit} {m : Int → Option Int} {k v : Int} (h2 : IsMap D)
    (h3 : ∀ x, Maps.has D (.int .i64 x) = (m x).isSome ∧ ∀ v, m x = some v → D.atKey (.int .i64 x) (.lit (.int .i64 0)) = .lit (.int .i64 v)) :
    IsMap (D.put (.int .i64 k) (.lit (.int .i64 v))) ∧
    ∀ x, Maps.has (D.put (.int .i64 k) (.lit (.int .i64 v))) (.int .i64 x) = (setAt m k v x).isSome ∧ ∀ u, setAt m k v x = some u → (D.put (.int .i64 k) (.lit (.int .i64 v))).atKey (.int .i64 x) (.lit (.int .i64 0)) = .lit (.int .i64 u) := by
  refine ⟨h2.put _ _, fun x => ?_⟩
  by_cases e : k = x
  · subst e
    refine ⟨?_, fun u hu => ?_⟩
    · rw [has_put_same h2 (by trivial)]; simp [setAt]
    · simp [setAt] at hu
      subst hu
      exact atKey_put_same h2 (by trivial) _ _
  · have hne : (Lit.int .i64 x) ≠ (Lit.int .i64 k) := by simp; exact fun h => e h.symm
    refine ⟨?_, fun u hu => ?_⟩
    · rw [has_put_other hne]; simp [setAt, e]; exact (h3 x).1
    · simp [setAt, e] at hu
      rw [atKey_put_other hne]
      exact (h3 x).2 u hu

theorem look_setAt (f g : Nat → Int) (k : Nat) : setAt (look f g k) (f k) (g k) = look f g (k + 1) := by
  funext x; rfl

theorem grown_cell {w w' : World} {b : Nat} (hg : w.grownBy w' (some b)) {k o : Nat} (hk : k < w.heap.size) (hne : k ≠ b) : w'.cell? ⟨k, o, none⟩ = w.cell? ⟨k, o, none⟩ :=
  World.cell?_of_block (w := w) (hg.block k hk (fun e => hne (by simpa using e)))
theorem grown_frozen {w w' : World} {b : Nat} (hg : w.grownBy w' (some b)) {k o : Nat} (hk : k < w.heap.size) (hne : k ≠ b) : w'.frozen? ⟨k, o, none⟩ = w.frozen? ⟨k, o, none⟩ :=
  World.frozen?_of_block (w := w) (hg.block k hk (fun e => hne (by simpa using e)))

end Go.Proofs.Ytkoinmddcnnipaa
namespace Go.Proofs.Ytkoinmddcnnipaa
open Go.RowKit Go.Deep Go.Maps

theorem MapIs.below {w w' : World} {b n : Nat} {m : Int → Option Int} (h : MapIs w b n m) (hb : Below w.heap.size w w') : MapIs w' b n m := h.of_block (hb.block b h.lt)

theorem getD_of_some {m : Int → Option Int} {x base c : Int} {D : DataW Unit} (h1 : Maps.has D (.int .i64 x) = (m x).isSome) (h2 : ∀ v, m x = some v → D.atKey (.int .i64 x) (.lit (.int .i64 0)) = .lit (.int .i64 v)) (hat : D.atKey (.int .i64 x) (.lit (.int .i64 0)) = .lit (.int .i64 c)) :
    (Maps.has D (.int .i64 x) = true → (m x).getD base = c) ∧ (Maps.has D (.int .i64 x) = false → (m x).getD base = base) := by
  cases hm : m x with
  | none => simp [h1, hm]
  | some v =>
    have := (h2 v hm).symm.trans hat
    simp at this
    simp [h1, hm, this]

def levOf (base : Int) (n : Nat) (f g : Nat → Int) (x : Int) : Int := (look f g n x).getD base

theorem wf_of_le {x : Int} (h0 : -9223372036854775808 ≤ x) (h1 : x ≤ 9223372036854775807) : (Lit.int .i64 x).wf = true := WalkArith.wf_i64 ⟨h0, h1⟩
theorem rising {base : Int} {n : Nat} {f g : Nat → Int} (h : ∀ i, i < n → catOk base f g i = true) : ∀ j, j < n → ∀ i, i < j → f i < f j := by
  intro j
  induction j with
  | zero => intro _ i hi; omega
  | succ j ih =>
    intro hj i hi
    have h1 := (catOk_iff.1 (h (j + 1) hj)).2.2.2
    have h2 : f j < f (j + 1) := by rcases h1 with h1 | h1; omega; simpa using h1
    by_cases e : i = j
    · subst e; exact h2
    · have := ih (by omega) i (by omega); omega

theorem look_none {f g : Nat → Int} {k : Nat} {x : Int} (h : ∀ i, i < k → f i ≠ x) : look f g k x = none := by
  induction k with
  | zero => rfl
  | succ k ih => simp only [look]; rw [if_neg (h k (by omega))]; exact ih fun i hi => h i (by omega)

theorem look_some {f g : Nat → Int} {n k : Nat} (hr : ∀ j, j < n → ∀ i, i < j → f i < f j) (hk : k < n) : look f g n (f k) = some (g k) := by
  induction n with
  | zero => omega
  | succ n ih =>
    simp only [look]
    by_cases e : k = n
    · subst e; rw [if_pos rfl]
    · have := hr n (by omega) k (by omega)
      rw [if_neg (by omega)]
      exact ih (fun j hj i hi => hr j (by omega) i hi) (by omega)

set_option maxHeartbeats 1000000 in
theorem l1Level_any (base : Int) (a : Option Addr) (n cap : Nat) (f g : Nat → Int) (x : Int) (w : World) (hn : n ≤ maxLen) (hc : CatsAt w a n f g) (hr : ∀ j, j < n → ∀ i, i < j → f i < f j) :
    Calls Try.prog 102 #[.agg #[.int .i64 base, .slice a n cap], .int .i64 x] w fun e w' => e = .returned (.int .i64 (levOf base n f g x)) ∧ Below w.heap.size w w' := by
  unfold maxLen at hn
  have hb0 := (Below.refl _ w).alloc (Nat.le_refl _) (.cells #[.int .i64 base, .slice a n cap] 35)
  have hc1 := hc.below hb0
  have HR : Hid (∀ j, j < n → ∀ i, i < j → f i < f j) := hr
  clear hc hr
  go_enter Try.func102, Try.ntmps102
  go_wp2
  go_loop [5] (fun i => ∃ k : Nat, k ≤ n ∧ i = .int .i64 k ∧ (∀ j, j < k → f j ≠ x)) (fun i => n - (intOf i).toNat)
  case atStart => exact ⟨0, Nat.zero_le _, rfl, fun j hj => by omega⟩
  case round =>
    obtain ⟨k, hk, rfl, hall⟩ := hrel
    have HA : Hid (∀ j, j < k → f j ≠ x) := hall
    clear hall
    by_cases hlt' : k < n
    · obtain ⟨b, off, rfl, hlt, hcc⟩ := hc1 (by omega)
      obtain ⟨g1, g2⟩ := hcc k hlt'
      clear hcc hc1
      by_cases t : (f k == x) = true
      · go_wp2
        go_ret
        have t' : f k = x := by simpa using t
        exact ⟨ret_int (by rw [← t', levOf, look_some HR.out hlt']; rfl), hb0⟩
      · have t' : (f k == x) = false := by simpa using t
        clear t
        go_wp2
        go_round
        case rel =>
          refine ⟨k + 1, by omega, by go_num, fun j hj => ?_⟩
          by_cases e : j = k
          · subst e; simpa using t'
          · exact HA.out j (by omega)
        case measure => simp [intOf]; omega
    · clear hc1
      go_wp2
      go_ret
      have e : k = n := by omega
      subst e
      exact ⟨ret_int (by rw [levOf, look_none HA.out]; rfl), hb0⟩
def levelB (base : Int) (n : Nat) (f g : Nat → Int) (x : Int) : Int := if labOk base n f g && inB x 1 9999 then levOf base n f g x else -1

theorem levelB_no1 {base : Int} {n : Nat} {f g : Nat → Int} {x : Int} (h : labOk base n f g = false) : levelB base n f g x = -1 := by simp [levelB, h]
theorem levelB_no2 {base : Int} {n : Nat} {f g : Nat → Int} {x : Int} (h : inB x 1 9999 = false) : levelB base n f g x = -1 := by simp [levelB, h]
theorem levelB_yes {base : Int} {n : Nat} {f g : Nat → Int} {x : Int} (h : labOk base n f g = true) (h' : inB x 1 9999 = true) : levelB base n f g x = levOf base n f g x := by simp [levelB, h, h']

theorem labOk_wf {base : Int} {n : Nat} {f g : Nat → Int} (h : labOk base n f g = true) : ∀ i, i < n → (Lit.int .i64 (f i)).wf = true ∧ (Lit.int .i64 (g i)).wf = true := fun i hi => by
  obtain ⟨h1, h2, _⟩ := catOk_iff.1 ((labOk_out h).2.2 i hi)
  exact ⟨wf_of_le (by omega) (by omega), wf_of_le (by omega) (by omega)⟩

end Go.Proofs.Ytkoinmddcnnipaa
