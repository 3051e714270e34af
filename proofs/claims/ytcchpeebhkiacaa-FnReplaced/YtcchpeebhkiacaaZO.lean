/- The place of a file; ops that are formed. -/
import Derived.Test.YtcchpeebhkiacaaZB
import Derived.Maps.AppendAt
import Derived.Deep.AppendLies
import Derived.Laws.OwnMore
import Derived.WideShapes
import Derived.Deep.RegionLaw
namespace Go.Proofs.Ytcchpeebhkiacaa
open Go.RowKit Go.Deep

theorem eqS_true {x y : ByteArray} (h : x = y) : (x.toList == y.toList) = true := by subst h; exact beq_iff_eq.2 rfl
theorem eqS_false {x y : ByteArray} (h : x ≠ y) : (x.toList == y.toList) = false := by
  rw [Lib.toList_data, Lib.toList_data]
  exact beq_eq_false_iff_ne.2 (fun e => h (key_inj e))
/-- what the place of a file is -/
def AtIs (n : Nat) (f : Nat → FileV) (s : ByteArray) (r : Int) : Prop := (∃ i : Nat, i < n ∧ r = i ∧ (f i).name = s ∧ ∀ j, j < i → (f j).name ≠ s) ∨ (r = -1 ∧ ∀ j, j < n → (f j).name ≠ s)

set_option maxRecDepth 100000 in
set_option maxHeartbeats 2000000 in
theorem l11At_any (l : FileL) (s : ByteArray) (w : World) (hl : l.at w) :
    Calls Try.prog 43 #[l.val, .string s] w fun e w' => ∃ r : Int, e = .returned (.int .i64 r) ∧ AtIs l.n l.f s r ∧ Below w.heap.size w w' := by
  obtain ⟨a, n, cap, f⟩ := l
  obtain ⟨hn, hc, hf⟩ := hl
  simp only at hn hc hf
  unfold FileL.val
  unfold maxLen at hn
  simp only
  clear hf
  go_enter Try.func43, Try.ntmps43
  go_wp2
  go_loopw [5] (fun i wr => ∃ k : Nat, k ≤ n ∧ i = .int .i64 k ∧ (∀ j, j < k → (f j).name ≠ s) ∧ Below w.heap.size w wr) (fun i _ => n - (intOf i).toNat)
  case atStart => exact ⟨0, Nat.zero_le _, rfl, fun j hj => by omega, Below.refl _ _⟩
  case round =>
    obtain ⟨k, hk, rfl, hall, hB⟩ := hrel
    have HA := hid hall
    clear hall
    by_cases hlt' : k < n
    · obtain ⟨b, off, rfl, hlt, hcc⟩ := hc (by omega)
      have g1 : wr.cell? ⟨b, off + k * 2, none⟩ = some (.string (f k).name) := (hB.cell (p := ⟨b, _, none⟩) hlt).trans (hcc k hlt').1
      have i0 : (0 : Int) ≤ (k : Int) := by omega
      have i1 : (k : Int) < (n : Int) := by omega
      clear hc hcc
      by_cases t : (f k).name = s
      · have t' := eqS_true t
        have HT := hid t
        clear t
        go_wp2
        go_ret
        exact ⟨_, rfl, .inl ⟨k, hlt', rfl, HT.out, HA.out⟩, hB⟩
      · have t' := eqS_false t
        have HT := hid t
        clear t
        go_wp2
        go_roundw
        case rel => exact ⟨k + 1, by omega, by go_num, fun j hj => by
          by_cases e : j = k
          · rw [e]; exact HT.out
          · exact HA.out j (by omega), hB⟩
        case measure => simp [intOf]; omega
    · clear hc
      obtain rfl : k = n := by omega
      go_wp2
      go_ret
      exact ⟨_, rfl, .inr ⟨rfl, HA.out⟩, hB⟩

/-- is an op formed? -/
def opForm (o : OpV) : Bool := inB o.kind 1 3 && nmOk o.name && (if o.kind = 2 then nmOk o.to && o.data.toList.isEmpty else o.to.toList.isEmpty && (decide (o.kind = 1) || o.data.toList.isEmpty))
set_option maxRecDepth 100000 in
set_option maxHeartbeats 2000000 in
theorem l11Form_any (o : OpV) (w : World) (ho : o.wf) :
    Calls Try.prog 29 #[o.val] w fun e w' => e = .returned (.bool (opForm o)) ∧ Below w.heap.size w w' := by
  unfold OpV.val
  obtain ⟨z1, z2, z3⟩ := ho
  cases t1 : inB o.kind 1 3 with
  | false =>
    have E : opForm o = false := by simp [opForm, t1]
    go_enter Try.func29, Try.ntmps29
    go_wp2_with (first | (go_at_call 56; refine (l1In_any _ _ _ _).mono ?_; rintro e w' ⟨rfl, rfl⟩) | (go_at_call 53; refine (l11Name_any _ _ (by assumption)).mono ?_; rintro e w' ⟨rfl, rfl⟩))
    go_ret
    exact ⟨ret_bool E.symm, (Below.refl _ _).alloc (Nat.le_refl _) _⟩
  | true =>
  cases t2 : nmOk o.name with
  | false =>
    have E : opForm o = false := by simp [opForm, t2]
    go_enter Try.func29, Try.ntmps29
    go_wp2_with (first | (go_at_call 56; refine (l1In_any _ _ _ _).mono ?_; rintro e w' ⟨rfl, rfl⟩) | (go_at_call 53; refine (l11Name_any _ _ (by assumption)).mono ?_; rintro e w' ⟨rfl, rfl⟩))
    go_ret
    exact ⟨ret_bool E.symm, (Below.refl _ _).alloc (Nat.le_refl _) _⟩
  | true =>
  by_cases t3 : o.kind = 2
  · have E : Hid (opForm o = (nmOk o.to && o.data.toList.isEmpty)) := hid (by rw [opForm, t1, t2, if_pos t3]; rfl)
    cases t4 : nmOk o.to with
    | false =>
      go_enter Try.func29, Try.ntmps29
      go_wp2_with (first | (go_at_call 56; refine (l1In_any _ _ _ _).mono ?_; rintro e w' ⟨rfl, rfl⟩) | (go_at_call 53; refine (l11Name_any _ _ (by assumption)).mono ?_; rintro e w' ⟨rfl, rfl⟩))
      go_ret
      exact ⟨ret_bool (by rw [E.out, t4]; rfl), (Below.refl _ _).alloc (Nat.le_refl _) _⟩
    | true =>
      go_enter Try.func29, Try.ntmps29
      go_wp2_with (first | (go_at_call 56; refine (l1In_any _ _ _ _).mono ?_; rintro e w' ⟨rfl, rfl⟩) | (go_at_call 53; refine (l11Name_any _ _ (by assumption)).mono ?_; rintro e w' ⟨rfl, rfl⟩))
      go_ret
      exact ⟨ret_bool (by rw [E.out, t4]; simp), (Below.refl _ _).alloc (Nat.le_refl _) _⟩
  · have E : Hid (opForm o = (o.to.toList.isEmpty && (decide (o.kind = 1) || o.data.toList.isEmpty))) := hid (by rw [opForm, t1, t2, if_neg t3]; rfl)
    cases t5 : o.to.toList.isEmpty with
    | false =>
      go_enter Try.func29, Try.ntmps29
      go_wp2_with (first | (go_at_call 56; refine (l1In_any _ _ _ _).mono ?_; rintro e w' ⟨rfl, rfl⟩) | (go_at_call 53; refine (l11Name_any _ _ (by assumption)).mono ?_; rintro e w' ⟨rfl, rfl⟩))
      go_ret
      exact ⟨ret_bool (by rw [E.out, t5]; rfl), (Below.refl _ _).alloc (Nat.le_refl _) _⟩
    | true =>
      by_cases t6 : o.kind = 1
      · go_enter Try.func29, Try.ntmps29
        go_wp2_with (first | (go_at_call 56; refine (l1In_any _ _ _ _).mono ?_; rintro e w' ⟨rfl, rfl⟩) | (go_at_call 53; refine (l11Name_any _ _ (by assumption)).mono ?_; rintro e w' ⟨rfl, rfl⟩))
        go_ret
        exact ⟨ret_bool (by rw [E.out, t5]; simp [t6]), (Below.refl _ _).alloc (Nat.le_refl _) _⟩
      · go_enter Try.func29, Try.ntmps29
        go_wp2_with (first | (go_at_call 56; refine (l1In_any _ _ _ _).mono ?_; rintro e w' ⟨rfl, rfl⟩) | (go_at_call 53; refine (l11Name_any _ _ (by assumption)).mono ?_; rintro e w' ⟨rfl, rfl⟩))
        go_ret
        exact ⟨ret_bool (by rw [E.out, t5]; simp [t6]), (Below.refl _ _).alloc (Nat.le_refl _) _⟩
end Go.Proofs.Ytcchpeebhkiacaa
/- Slices of files that a call makes and adds to. -/
namespace Go.Proofs.Ytcchpeebhkiacaa
open Go Go.RowKit Go.Deep Go.Maps
open Go.WideShapes (add_plain)

/-- n elements lie there, cell by cell -/
def LiesC (w : World) (ad : Option Addr) (n : Nat) (cs : List Value) : Prop :=
  0 < n → ∃ b off, ad = some ⟨b, off, none⟩ ∧ b < w.heap.size ∧ ∀ j u, cs[j]? = some u → w.cell? ⟨b, off + j, none⟩ = some u

theorem LiesC.below {w w' : World} {ad : Option Addr} {n : Nat} {cs : List Value} (h : LiesC w ad n cs) (hb : Below w.heap.size w w') : LiesC w' ad n cs := fun hn => by
  obtain ⟨b, off, e, hlt, hc⟩ := h hn
  exact ⟨b, off, e, Nat.lt_of_lt_of_le hlt hb.size, fun j u hu => (hb.cell (p := ⟨b, off + j, none⟩) hlt).trans (hc j u hu)⟩

theorem LiesC.own {w : World} {B e size n c : Nat} {a : Option Addr} {cs : List Value} (h : w.ownsRow B e size (.slice a n c) n cs) : LiesC w a n cs := fun hn => by
  obtain ⟨gb, cap, hv, _, hlt⟩ := World.ownsRow.form h hn
  simp only [Value.slice.injEq] at hv
  obtain ⟨rfl, _, _⟩ := hv
  have hc := World.ownsRow.cells h (g := gb) rfl
  refine ⟨gb, 0, rfl, hlt, fun j u hu => ?_⟩
  have t := hc j u hu
  rw [add_plain] at t
  exact t

theorem ownsRow_shape {w : World} {B e size n : Nat} {v : Value} {cs : List Value} (h : w.ownsRow B e size v n cs) : ∃ a c, v = .slice a n c := by
  rcases h.2 with ⟨rfl, rfl⟩ | ⟨gb, cap, cur, rfl, _⟩
  · exact ⟨_, _, rfl⟩
  · exact ⟨_, _, rfl⟩

section
variable {t e size bytes : Nat} {z : Value} (hT : Try.prog.underlying t = some (.slice e)) (hI : (Try.prog.info? e).map (fun i => (i.zero, i.size, i.bytes)) = some (some z, size, bytes)) (hzs : z.cells.size = size) (hsz : 0 < size)
include hT hI hzs hsz

theorem run_append_gen (w : World) (ty B : Nat) (v : Value) (n : Nat) (cs : List Value) (hown : w.ownsRow B e size v n cs) (ad : Option Addr) (m c : Nat) (cs' : List Value) (hl : cs'.length = m * size) (hc : LiesC w ad m cs') (h1 : ∀ u ∈ cs', u.oneCell' = true)
    (hm : n + m ≤ 4194304) (hby : (n + m) * bytes ≤ 140737488355328) (hB : B ≤ w.heap.size) :
    ∃ a' c' w', (Builtin.append_ #[t, t] ty #[v, .slice ad m c]).run Try.prog w = .ok (.slice a' (n + m) c') w' ∧ w'.ownsRow B e size (.slice a' (n + m) c') (n + m) (cs ++ cs') ∧ w.grownBy w' v.ownBlock ∧
      ((Value.slice a' (n + m) c').ownBlock = v.ownBlock ∨ (Value.slice a' (n + m) c').ownBlock = some w.heap.size) := by
  obtain ⟨i0, hi, hz0, hz1, hz2⟩ := info_parts hI
  have some' : ∀ a : Addr, (∀ j u, cs'[j]? = some u → w.cell? (a.add j) = some u) → ∃ a' c' w', (Builtin.append_ #[t, t] ty #[v, .slice (some a) m c]).run Try.prog w = .ok (.slice a' (n + m) c') w' ∧ w'.ownsRow B e size (.slice a' (n + m) c') (n + m) (cs ++ cs') ∧ w.grownBy w' v.ownBlock ∧
      ((Value.slice a' (n + m) c').ownBlock = v.ownBlock ∨ (Value.slice a' (n + m) c').ownBlock = some w.heap.size) := fun a hnews => by
    obtain ⟨v', w', hr, h2, h3, _, h5⟩ := run_append_own_at (P := Try.prog) w B t ty e i0 _ size bytes hT hi hz0 hz1 hz2 hzs hsz v n cs hown a m c cs' hl hnews h1 (by unfold maxLen; omega) hby hB
    obtain ⟨a', c', rfl⟩ := ownsRow_shape h2
    exact ⟨a', c', w', hr, h2, h3, h5⟩
  by_cases h0 : 0 < m
  · obtain ⟨b, off, rfl, _, hcc⟩ := hc h0
    exact some' _ (fun j u hu => by rw [add_plain]; exact hcc j u hu)
  · obtain rfl : m = 0 := by omega
    have e0 : cs' = [] := List.eq_nil_of_length_eq_zero (by omega)
    subst e0
    cases ad with
    | some a => exact some' a (fun j u hu => by simp at hu)
    | none =>
      obtain ⟨a', c', rfl⟩ := ownsRow_shape hown
      rw [List.append_nil]
      refine ⟨a', c', w, ?_, hown, ⟨rfl, rfl, rfl, Nat.le_refl _, fun _ _ _ => rfl⟩, .inl rfl⟩
      obtain ⟨_, hx⟩ := hown
      rcases hx with ⟨hv, rfl⟩ | ⟨gb, cap, cur, hv, _, _, hnc, _⟩
      · simp only [Value.slice.injEq] at hv
        obtain ⟨rfl, _, rfl⟩ := hv
        simp [Builtin.append_, run_underlying hT, sizeOf, typeInfo, hi, Builtin.lenOf, Builtin.firstCells]
      · simp only [Value.slice.injEq] at hv
        obtain ⟨rfl, _, rfl⟩ := hv
        simp [Builtin.append_, run_underlying hT, sizeOf, typeInfo, hi, Builtin.lenOf, Builtin.firstCells, hnc, storeCells]

theorem wp_append_gen {o : Oper} {a : Act} {K : Act → World → Prop} {Q : Exit → Act → World → Prop} (w : World) (s x : Operand)
    (ho : o.op = .call { callee := .builtin .append, args := #[s, x], argTypes := #[t, t] })
    (B : Nat) (v : Value) (n : Nat) (cs : List Value) (hs : a.eval s = v) (hown : w.ownsRow B e size v n cs) (ad : Option Addr) (m c : Nat) (cs' : List Value) (hx : a.eval x = .slice ad m c) (hl : cs'.length = m * size) (hc : LiesC w ad m cs') (h1 : ∀ u ∈ cs', u.oneCell' = true)
    (hm : n + m ≤ 4194304) (hby : (n + m) * bytes ≤ 140737488355328) (hB : B ≤ w.heap.size)
    (h : ∀ a' c' w', w'.ownsRow B e size (.slice a' (n + m) c') (n + m) (cs ++ cs') → w.grownBy w' v.ownBlock → ((Value.slice a' (n + m) c').ownBlock = v.ownBlock ∨ (Value.slice a' (n + m) c').ownBlock = some w.heap.size) → K (a.put o.dst (.slice a' (n + m) c')) w') : o.wp Try.prog a w K Q := by
  obtain ⟨a', c', w', hr, h2, h3, h4⟩ := run_append_gen hT hI hzs hsz w o.type B v n cs hown ad m c cs' hl hc h1 hm hby hB
  unfold Oper.wp execOp
  simp only [ho, resolve, invoke, builtin, Sem.run_bind, Sem.run_pure, Result.andThen_ok, List.map_toArray, List.map_cons, List.map_nil, hs, hx, hr]
  exact h a' c' w' h2 h3 h4
end


def FileV.cs (v : FileV) : List Value := [.string v.name, .string v.data]
def cellsF (l : List FileV) : List Value := (l.map FileV.cs).flatten
theorem cellsF_len (l : List FileV) : (cellsF l).length = l.length * 2 := by
  induction l with
  | nil => rfl
  | cons x r ih => simp [cellsF, FileV.cs] at *; omega
theorem cellsF_append (l r : List FileV) : cellsF (l ++ r) = cellsF l ++ cellsF r := by simp [cellsF]
theorem cellsF_one {l : List FileV} : ∀ u ∈ cellsF l, u.oneCell' = true := fun u hu => by
  simp only [cellsF, List.mem_flatten, List.mem_map] at hu
  obtain ⟨_, ⟨x, _, rfl⟩, h⟩ := hu
  simp only [FileV.cs, List.mem_cons, List.not_mem_nil, or_false] at h
  rcases h with rfl | rfl <;> rfl
theorem cellsF_get {l : List FileV} : ∀ {i : Nat} (hi : i < l.length), (cellsF l)[i * 2]? = some (.string (l[i]).name) ∧ (cellsF l)[i * 2 + 1]? = some (.string (l[i]).data) := by
  induction l with
  | nil => intro i hi; simp at hi
  | cons x r ih =>
    intro i hi
    have e : cellsF (x :: r) = Value.string x.name :: Value.string x.data :: cellsF r := by simp [cellsF, FileV.cs]
    rw [e]
    cases i with
    | zero => simp
    | succ i =>
      have h := ih (i := i) (by simpa using hi)
      have e1 : (i + 1) * 2 = i * 2 + 1 + 1 := by omega
      rw [e1]
      simpa using h
/-- a call owns the slice of these files -/
def OwnF (w : World) (B : Nat) (v : Value) (l : List FileV) : Prop := w.ownsRow B 56 2 v l.length (cellsF l)
def FilL (w : World) (ad : Option Addr) (l : List FileV) : Prop := LiesC w ad l.length (cellsF l)
def fileAt (l : List FileV) (i : Nat) : FileV := l.getD i FileV.z
theorem FilL.below {w w' : World} {ad : Option Addr} {l : List FileV} (h : FilL w ad l) (hb : Below w.heap.size w w') : FilL w' ad l := LiesC.below h hb
theorem OwnF.lies {w : World} {B c : Nat} {a : Option Addr} {l : List FileV} (h : OwnF w B (.slice a l.length c) l) : FilL w a l := LiesC.own h
theorem OwnF.made (w : World) (B : Nat) (hb : B ≤ w.heap.size) : OwnF (w.alloc (.cells #[] 56)) B (.slice (some ⟨w.heap.size, 0, none⟩) 0 0) [] := World.ownsRow_made w #[] 0 hb (Nat.zero_le _) rfl
theorem OwnF.nil (w : World) (B : Nat) : OwnF w B (.slice none 0 0) [] := World.ownsRow_nil _ _ _ _
theorem OwnF.alloc {w : World} {B : Nat} {v : Value} {l : List FileV} (h : OwnF w B v l) (o : Obj) : OwnF (w.alloc o) B v l := World.ownsRow.alloc h o
theorem FilL.files {w : World} {ad : Option Addr} {l : List FileV} (h : FilL w ad l) : FilesAt w ad l.length (fileAt l) := fun hn => by
  obtain ⟨b, off, e, hlt, hc⟩ := h hn
  refine ⟨b, off, e, hlt, fun i hi => ?_⟩
  have g := cellsF_get hi
  have e1 : fileAt l i = l[i] := by simp [fileAt, hi]
  rw [e1]
  exact ⟨hc _ _ g.1, hc _ _ g.2⟩
theorem FilL.one {w : World} (x : FileV) : FilL (w.alloc (.cells #[.string x.name, .string x.data] 56)) (some ⟨w.heap.size, 0, none⟩) [x] := fun _ =>
  ⟨_, 0, rfl, by simp, fun j u hu => by
    have hj : j = 0 ∨ j = 1 ∨ 2 ≤ j := by omega
    rcases hj with rfl | rfl | h
    · simp [cellsF, FileV.cs] at hu; subst hu; simp
    · simp [cellsF, FileV.cs] at hu; subst hu; simp
    · have : (cellsF [x]).length ≤ j := by simpa [cellsF, FileV.cs] using h
      rw [List.getElem?_eq_none this] at hu
      cases hu⟩
theorem wpList_append_files {ops : Array Oper} {rest : List Oper} {o : Oper} {a : Act} {Q : Exit → Act → World → Prop} (w : World) (hgd : o.guard = none) (s x : Operand)
    (ho : o.op = .call { callee := .builtin .append, args := #[s, x], argTypes := #[24, 24] })
    (B : Nat) (v : Value) (l : List FileV) (hs : a.eval s = v) (hown : OwnF w B v l) (ad : Option Addr) (m c : Nat) (l' : List FileV) (hx : a.eval x = .slice ad m c) (hm' : l'.length = m) (hc : FilL w ad l') (R : List FileV) (hR : R = l ++ l')
    (hm : R.length ≤ 4194304) (hB : B ≤ w.heap.size)
    (h : ∀ a' c' w', OwnF w' B (.slice a' R.length c') R → w.grownBy w' v.ownBlock → ((Value.slice a' R.length c').ownBlock = v.ownBlock ∨ (Value.slice a' R.length c').ownBlock = some w.heap.size) → wpList Try.prog ops Q rest (a.put o.dst (.slice a' R.length c')) w') : wpList Try.prog ops Q (o :: rest) a w := by
  subst hm' hR
  rw [List.length_append] at hm
  refine wpList_plain hgd fun _ hK => wp_append_gen Try.underlying24 Try.info56 rfl (by omega) w s x ho B v l.length _ hs hown ad l'.length c _ hx (cellsF_len l') hc cellsF_one hm (by omega) hB fun a' c' w' h2 h3 h4 => hK _ _ ?_
  rw [← cellsF_append, ← List.length_append] at h2
  rw [← List.length_append] at h4 ⊢
  exact h a' c' w' h2 h3 h4
end Go.Proofs.Ytcchpeebhkiacaa
