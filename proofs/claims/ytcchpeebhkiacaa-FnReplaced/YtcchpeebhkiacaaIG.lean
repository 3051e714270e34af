/- Whole numbers that a call gathers; files held against files. -/
import Derived.Test.YtcchpeebhkiacaaMS
import Derived.Test.YtcchpeebhkiacaaMD
namespace Go.Proofs.Ytcchpeebhkiacaa
open Go Go.RowKit Go.Deep Go.Maps
open Go.WideShapes (add_plain)

/-- a call owns the slice of these whole numbers -/
def OwnI (w : World) (B : Nat) (v : Value) (l : List Int) : Prop := w.ownsRow B 2 1 v l.length (l.map (Value.int .i64))
/-- these whole numbers lie there -/
def IntL (w : World) (ad : Option Addr) (l : List Int) : Prop := LiesC w ad l.length (l.map (Value.int .i64))

theorem IntL.below {w w' : World} {ad : Option Addr} {l : List Int} (h : IntL w ad l) (hb : Below w.heap.size w w') : IntL w' ad l := LiesC.below h hb
theorem OwnI.lies {w : World} {B c : Nat} {a : Option Addr} {l : List Int} (h : OwnI w B (.slice a l.length c) l) : IntL w a l := LiesC.own h
theorem OwnI.nil (w : World) (B : Nat) : OwnI w B (.slice none 0 0) [] := World.ownsRow_nil _ _ _ _
theorem OwnI.made (w : World) (B : Nat) (hb : B ≤ w.heap.size) : OwnI (w.alloc (.cells #[] 2)) B (.slice (some ⟨w.heap.size, 0, none⟩) 0 0) [] := World.ownsRow_made w #[] 0 hb (Nat.zero_le _) rfl
theorem OwnI.alloc {w : World} {B : Nat} {v : Value} {l : List Int} (h : OwnI w B v l) (o : Obj) : OwnI (w.alloc o) B v l := World.ownsRow.alloc h o

def numAt (l : List Int) (i : Nat) : Int := l.getD i 0
theorem IntL.ints {w : World} {ad : Option Addr} {l : List Int} (h : IntL w ad l) : IntsAt w ad l.length (numAt l) := fun hn => by
  obtain ⟨b, off, e, hlt, hc⟩ := h hn
  exact ⟨b, off, e, hlt, fun i hi => hc i _ (by simp [numAt, hi])⟩
theorem IntsAt.intL {w : World} {ad : Option Addr} {n : Nat} {h : Nat → Int} (hc : IntsAt w ad n h) : IntL w ad ((List.range n).map h) := fun hn => by
  have hn' : 0 < n := by simpa using hn
  obtain ⟨b, off, e, hlt, hcc⟩ := hc hn'
  refine ⟨b, off, e, hlt, fun j u hu => ?_⟩
  by_cases hj : j < n
  · simp [hj] at hu
    rw [← hu]
    exact hcc j hj
  · simp [hj] at hu

/-- at the operation: more numbers behind those that the call owns -/
theorem wpList_append_ints {ops : Array Oper} {rest : List Oper} {o : Oper} {a : Act} {Q : Exit → Act → World → Prop} (w : World) (hgd : o.guard = none) (s x : Operand)
    (ho : o.op = .call { callee := .builtin .append, args := #[s, x], argTypes := #[30, 30] })
    (B : Nat) (v : Value) (l : List Int) (hs : a.eval s = v) (hown : OwnI w B v l) (ad : Option Addr) (m c : Nat) (l' : List Int) (hx : a.eval x = .slice ad m c) (hm' : l'.length = m) (hc : IntL w ad l')
    (hm : l.length + m ≤ 4194304) (hB : B ≤ w.heap.size)
    (h : ∀ a' c' w', OwnI w' B (.slice a' (l ++ l').length c') (l ++ l') → w.grownBy w' v.ownBlock → ((Value.slice a' (l ++ l').length c').ownBlock = v.ownBlock ∨ (Value.slice a' (l ++ l').length c').ownBlock = some w.heap.size) → wpList Try.prog ops Q rest (a.put o.dst (.slice a' (l ++ l').length c')) w') : wpList Try.prog ops Q (o :: rest) a w := by
  subst hm'
  refine wpList_plain hgd fun _ hK => wp_append_gen Try.underlying30 Try.info2 rfl (by omega) w s x ho B v l.length _ hs hown ad l'.length c _ hx (by simp) hc (fun u hu => by obtain ⟨y, _, rfl⟩ := List.mem_map.1 hu; rfl) hm (by omega) hB fun a' c' w' h2 h3 h4 => hK _ _ ?_
  rw [← List.map_append, ← List.length_append] at h2
  rw [← List.length_append] at h4 ⊢
  exact h a' c' w' h2 h3 h4

theorem wpList_append_intsR {ops : Array Oper} {rest : List Oper} {o : Oper} {a : Act} {Q : Exit → Act → World → Prop} (w : World) (hgd : o.guard = none) (s x : Operand)
    (ho : o.op = .call { callee := .builtin .append, args := #[s, x], argTypes := #[30, 30] })
    (B : Nat) (v : Value) (l : List Int) (hs : a.eval s = v) (hown : OwnI w B v l) (ad : Option Addr) (m c : Nat) (l' : List Int) (hx : a.eval x = .slice ad m c) (hm' : l'.length = m) (hc : IntL w ad l') (R : List Int) (hR : R = l ++ l')
    (hm : R.length ≤ 4194304) (hB : B ≤ w.heap.size)
    (h : ∀ a' c' w', OwnI w' B (.slice a' R.length c') R → w.grownBy w' v.ownBlock → ((Value.slice a' R.length c').ownBlock = v.ownBlock ∨ (Value.slice a' R.length c').ownBlock = some w.heap.size) → wpList Try.prog ops Q rest (a.put o.dst (.slice a' R.length c')) w') : wpList Try.prog ops Q (o :: rest) a w := by
  subst hR
  exact wpList_append_ints w hgd s x ho B v l hs hown ad m c l' hx hm' hc (by rw [List.length_append] at hm; omega) hB h

set_option maxRecDepth 100000 in
set_option maxHeartbeats 4000000 in
theorem sameFiles_any (l m : FileL) (w : World) (hl : l.at w) (hm : m.at w) :
    Calls Try.prog 12 #[l.val, m.val] w fun e w' => e = .returned (.bool (decide (l.n = m.n) && sameF l.n l.f m.f)) ∧ Below w.heap.size w w' := by
  obtain ⟨a, n, cap, f⟩ := l
  obtain ⟨a', n', cap', g⟩ := m
  obtain ⟨hn, hc, _⟩ := hl
  obtain ⟨hn', hc', _⟩ := hm
  simp only at hn hc hn' hc'
  unfold FileL.val
  unfold maxLen at hn hn'
  simp only
  by_cases e : n = n'
  · subst e
    have E0 : (decide (n = n) && sameF n f g) = sameF n f g := by simp
    rw [E0]
    clear E0
    go_enter Try.func12, Try.ntmps12
    go_wp2
    go_loopw [5] (fun i wr => ∃ k : Nat, k ≤ n ∧ i = .int .i64 k ∧ (List.range k).all (fun i => sameV (f i) (g i)) = true ∧ Below w.heap.size w wr) (fun i _ => n - (intOf i).toNat)
    case atStart => exact ⟨0, Nat.zero_le _, rfl, rfl, Below.refl _ _⟩
    case round =>
      obtain ⟨k, hk, rfl, hall, hB⟩ := hrel
      have HA := hid hall
      clear hall
      by_cases hlt' : k < n
      · obtain ⟨b, off, rfl, hlt, hcc⟩ := hc (by omega)
        obtain ⟨b', off', rfl, hlt2, hcc'⟩ := hc' (by omega)
        have g1 : wr.cell? ⟨b, off + k * 2, none⟩ = some (.string (f k).name) := (hB.cell (p := ⟨b, _, none⟩) hlt).trans (hcc k hlt').1
        have g2 : wr.cell? ⟨b, off + k * 2 + 1, none⟩ = some (.string (f k).data) := (hB.cell (p := ⟨b, _, none⟩) hlt).trans (hcc k hlt').2
        have p1 : wr.cell? ⟨b', off' + k * 2, none⟩ = some (.string (g k).name) := (hB.cell (p := ⟨b', _, none⟩) hlt2).trans (hcc' k hlt').1
        have p2 : wr.cell? ⟨b', off' + k * 2 + 1, none⟩ = some (.string (g k).data) := (hB.cell (p := ⟨b', _, none⟩) hlt2).trans (hcc' k hlt').2
        have i0 : (0 : Int) ≤ (k : Int) := by omega
        have i1 : (k : Int) < (n : Int) := by omega
        have HQ := run_neq_file (f k).name (f k).data (g k).name (g k).data
        have hg := eqg
        clear hc hc' hcc hcc'
        cases t : ((f k).name.toList == (g k).name.toList && (f k).data.toList == (g k).data.toList) with
        | true =>
          have E6 : Hid (sameV (f k) (g k) = true) := hid t
          simp only [t] at HQ
          clear t
          go_wp2_with fail
          go_quiet (fail)
          go_wp2
          go_roundw
          case rel => exact ⟨k + 1, by omega, by go_num, by rw [all_succ, HA.out, E6.out]; rfl, by first | exact hB | exact hB.drew | exact below_drewN hB _⟩
          case measure => simp [intOf]; omega
        | false =>
          have E6 : Hid (sameV (f k) (g k) = false) := hid t
          simp only [t] at HQ
          clear t
          go_wp2_with fail
          go_quiet (fail)
          go_wp2
          go_ret
          exact ⟨ret_bool (by unfold sameF; rw [all_no hlt' E6.out]), by first | exact hB | exact hB.drew | exact below_drewN hB _⟩
      · clear hc hc'
        obtain rfl : k = n := by omega
        go_wp2
        go_ret
        exact ⟨ret_bool HA.out.symm, hB⟩
  · have e' : ¬ (n : Int) = (n' : Int) := by omega
    have E : Hid ((decide (n = n') && sameF n f g) = false) := hid (by simp [e])
    clear hc hc' e
    go_enter Try.func12, Try.ntmps12
    go_wp2
    go_ret
    exact ⟨ret_bool E.out.symm, Below.refl _ _⟩

/-- lists that are the same -/
theorem sameFiles_yes (l m : FileL) (w : World) (hl : l.at w) (hm : m.at w) (e : l.toL = m.toL) :
    Calls Try.prog 12 #[l.val, m.val] w fun e w' => e = .returned (.bool true) ∧ Below w.heap.size w w' := by
  have h := sameFiles_any l m w hl hm
  have en : l.n = m.n := by have := congrArg List.length e; rw [toL_len, toL_len] at this; exact this
  have es : sameF l.n l.f m.f = true := List.all_eq_true.2 fun i hi => by
    have hi := List.mem_range.1 hi
    have h1 := fileAt_toL (l := l) hi
    have h2 := fileAt_toL (l := m) (i := i) (by omega)
    rw [← h1, ← h2, e]
    unfold sameV
    simp
  rw [es, en] at h
  simpa using h
end Go.Proofs.Ytcchpeebhkiacaa
