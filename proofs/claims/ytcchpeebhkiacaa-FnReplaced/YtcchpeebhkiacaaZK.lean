/- Files compared, for the model. -/
import Derived.Test.YtcchpeebhkiacaaDK
import Derived.Laws.StructEq
namespace Go.Proofs.Ytcchpeebhkiacaa
open Go Go.RowKit Go.Deep Go.Maps

theorem eqg : Try.prog.eqGuardType Try.prog.depth 56 = false := by kernel_rfl
def sameV (x y : FileV) : Bool := (x.name.toList == y.name.toList) && (x.data.toList == y.data.toList)
theorem run_eql_file (a b x y : ByteArray) (w : World) : (binOp .eql 56 (.agg #[.string a, .string b]) (.agg #[.string x, .string y])).run Try.prog w = .ok (.bool ((a.toList == x.toList) && (b.toList == y.toList))) w := by
  have g1 : Try.prog.stoodInHeld 56 = false := by kernel_rfl
  have g3 : Try.prog.underlying 56 = some (.struct (Try.prog.fieldsOf 56)) := by kernel_rfl
  rw [run_eql_struct, run_equalIn_struct w 9999 56 _ _ g3 g1]
  have g4 : (Try.prog.fieldsOf 56).toList = [⟨"Name", 9, 0, false, "", "", 0⟩, ⟨"Data", 9, 1, false, "", "", 16⟩] := by kernel_rfl
  rw [g4]
  simp [Op.eqFields, go_sem]
  by_cases c1 : a.toList = x.toList
  · by_cases c2 : b.toList = y.toList
    · simp [c1, c2]
    · simp [c1, c2]
  · simp [c1]
theorem run_neq_file (a b x y : ByteArray) (w : World) : (binOp .neq 56 (.agg #[.string a, .string b]) (.agg #[.string x, .string y])).run Try.prog w = .ok (.bool (!((a.toList == x.toList) && (b.toList == y.toList)))) w := by
  have g1 : Try.prog.stoodInHeld 56 = false := by kernel_rfl
  have g3 : Try.prog.underlying 56 = some (.struct (Try.prog.fieldsOf 56)) := by kernel_rfl
  rw [run_neq_struct, run_equalIn_struct w 9999 56 _ _ g3 g1]
  have g4 : (Try.prog.fieldsOf 56).toList = [⟨"Name", 9, 0, false, "", "", 0⟩, ⟨"Data", 9, 1, false, "", "", 16⟩] := by kernel_rfl
  rw [g4]
  simp [Op.eqFields, go_sem]
  by_cases c1 : a.toList = x.toList
  · by_cases c2 : b.toList = y.toList
    · simp [c1, c2]
    · simp [c1, c2]
  · simp [c1]

def sameF (n : Nat) (f g : Nat → FileV) : Bool := (List.range n).all (fun i => sameV (f i) (g i))
set_option maxRecDepth 100000 in
set_option maxHeartbeats 4000000 in
theorem l11Same_any (l m : FileL) (w : World) (hl : l.at w) (hm : m.at w) :
    Calls Try.prog 30 #[l.val, m.val] w fun e w' => e = .returned (.bool (decide (l.n = m.n) && sameF l.n l.f m.f)) ∧ Below w.heap.size w w' := by
  obtain ⟨a, n, cap, f⟩ := l
  obtain ⟨a', n', cap', g⟩ := m
  obtain ⟨hn, hc, _⟩ := hl
  obtain ⟨hn', hc', _⟩ := hm
  simp only at hn hc hn' hc'
  unfold FileL.val
  unfold maxLen at hn hn'
  simp only
  by_cases e : n = n'
  · subst e
    have E0 : (decide (n = n) && sameF n f g) = sameF n f g := by simp
    rw [E0]
    clear E0
    go_enter Try.func30, Try.ntmps30
    go_wp2
    go_loopw [5] (fun i wr => ∃ k : Nat, k ≤ n ∧ i = .int .i64 k ∧ (List.range k).all (fun i => sameV (f i) (g i)) = true ∧ Below w.heap.size w wr) (fun i _ => n - (intOf i).toNat)
    case atStart => exact ⟨0, Nat.zero_le _, rfl, rfl, Below.refl _ _⟩
    case round =>
      obtain ⟨k, hk, rfl, hall, hB⟩ := hrel
      have HA := hid hall
      clear hall
      by_cases hlt' : k < n
      · obtain ⟨b, off, rfl, hlt, hcc⟩ := hc (by omega)
        obtain ⟨b', off', rfl, hlt2, hcc'⟩ := hc' (by omega)
        have g1 : wr.cell? ⟨b, off + k * 2, none⟩ = some (.string (f k).name) := (hB.cell (p := ⟨b, _, none⟩) hlt).trans (hcc k hlt').1
        have g2 : wr.cell? ⟨b, off + k * 2 + 1, none⟩ = some (.string (f k).data) := (hB.cell (p := ⟨b, _, none⟩) hlt).trans (hcc k hlt').2
        have p1 : wr.cell? ⟨b', off' + k * 2, none⟩ = some (.string (g k).name) := (hB.cell (p := ⟨b', _, none⟩) hlt2).trans (hcc' k hlt').1
        have p2 : wr.cell? ⟨b', off' + k * 2 + 1, none⟩ = some (.string (g k).data) := (hB.cell (p := ⟨b', _, none⟩) hlt2).trans (hcc' k hlt').2
        have i0 : (0 : Int) ≤ (k : Int) := by omega
        have i1 : (k : Int) < (n : Int) := by omega
        have HQ := run_neq_file (f k).name (f k).data (g k).name (g k).data
        have hg := eqg
        clear hc hc' hcc hcc'
        cases t : ((f k).name.toList == (g k).name.toList && (f k).data.toList == (g k).data.toList) with
        | true =>
          have E6 : Hid (sameV (f k) (g k) = true) := hid t
          simp only [t] at HQ
          clear t
          go_wp2_with fail
          go_quiet (fail)
          go_wp2
          go_roundw
          case rel => exact ⟨k + 1, by omega, by go_num, by rw [all_succ, HA.out, E6.out]; rfl, by first | exact hB | exact hB.drew | exact below_drewN hB _⟩
          case measure => simp [intOf]; omega
        | false =>
          have E6 : Hid (sameV (f k) (g k) = false) := hid t
          simp only [t] at HQ
          clear t
          go_wp2_with fail
          go_quiet (fail)
          go_wp2
          go_ret
          exact ⟨ret_bool (by unfold sameF; rw [all_no hlt' E6.out]), by first | exact hB | exact hB.drew | exact below_drewN hB _⟩
      · clear hc hc'
        obtain rfl : k = n := by omega
        go_wp2
        go_ret
        exact ⟨ret_bool HA.out.symm, hB⟩
  · have e' : ¬ (n : Int) = (n' : Int) := by omega
    have E : Hid ((decide (n = n') && sameF n f g) = false) := hid (by simp [e])
    clear hc hc' e
    go_enter Try.func30, Try.ntmps30
    go_wp2
    go_ret
    exact ⟨ret_bool E.out.symm, Below.refl _ _⟩
end Go.Proofs.Ytcchpeebhkiacaa
/- Right disks, plainly. -/
namespace Go.Proofs.Ytcchpeebhkiacaa
open Go Go.RowKit Go.Deep Go.Maps

def okL (M : List FileV) : Bool := fsOk M.length (fileAt M)
/-- the files behind an op that is right; none: it is not -/
def stepL (M : List FileV) (o : OpV) : Option (List FileV) :=
  if (doF M.length (fileAt M) o).2 = true ∧ opForm o = true ∧ okL (doF M.length (fileAt M) o).1 = true then some (doF M.length (fileAt M) o).1 else none
def runO (L : List FileV) (g : Nat → OpV) : Nat → Option (List FileV)
  | 0 => some L
  | k + 1 => (runO L g k).bind (fun M => stepL M (g k))
def FileL.toL (l : FileL) : List FileV := (List.range l.n).map l.f
def dkOk (d : DiskV) : Bool := fsOk d.live.n d.live.f && fsOk d.safe.n d.safe.f && decide (d.ops.n ≤ 200) &&
  (match runO d.safe.toL d.ops.f d.ops.n with | some M => decide (M.length = d.live.n) && sameF M.length (fileAt M) d.live.f | none => false)
theorem runO_none {L : List FileV} {g : Nat → OpV} {k n : Nat} (h : runO L g k = none) (hk : k ≤ n) : runO L g n = none := by
  induction n with
  | zero => rw [Nat.le_zero.1 hk] at h; exact h
  | succ n ih =>
    by_cases e : k = n + 1
    · rw [← e]; exact h
    · rw [runO, ih (by omega)]; rfl
theorem fileAt_toL {l : FileL} {i : Nat} (hi : i < l.n) : fileAt l.toL i = l.f i := by simp [fileAt, FileL.toL, hi]
theorem toL_len (l : FileL) : l.toL.length = l.n := by simp [FileL.toL]
theorem tot_congr {g h : Nat → Nat} {n : Nat} (e : ∀ i, i < n → g i = h i) : tot g n = tot h n := Nat.le_antisymm (tot_le fun i hi => Nat.le_of_eq (e i hi)) (tot_le fun i hi => Nat.le_of_eq (e i hi).symm)
theorem tot_bound {g : Nat → Nat} {n c : Nat} (e : ∀ i, i < n → g i ≤ c) : tot g n ≤ n * c := by
  induction n with
  | zero => simp [tot]
  | succ n ih =>
    have h1 := ih (fun i hi => e i (by omega))
    have h2 := e n (by omega)
    simp only [tot]
    rw [Nat.succ_mul]
    omega
theorem tot_one {g : Nat → Nat} {n i : Nat} (hi : i < n) : g i ≤ tot g n := Nat.le_trans (by simp only [tot]; omega) (tot_part (g := g) (k := i + 1) (n := n) (by omega))
theorem fsOk_congr {n : Nat} {f g : Nat → FileV} (e : ∀ i, i < n → f i = g i) : fsOk n f = fsOk n g := by
  have h1 : tot (dsz f) n = tot (dsz g) n := tot_congr fun i hi => by unfold dsz; rw [e i hi]
  have h2 : (List.range n).all (fileOk f) = (List.range n).all (fileOk g) := by
    refine Bool.eq_iff_iff.2 ?_
    simp only [List.all_eq_true, List.mem_range]
    have : ∀ i, i < n → fileOk f i = fileOk g i := fun i hi => by unfold fileOk; rw [e i hi, e (i - 1) (by omega)]
    exact ⟨fun h i hi => by rw [← this i hi]; exact h i hi, fun h i hi => by rw [this i hi]; exact h i hi⟩
  unfold fsOk
  rw [h1, h2]
theorem okL_toL (l : FileL) : okL l.toL = fsOk l.n l.f := by
  unfold okL
  rw [toL_len]
  exact fsOk_congr fun i hi => fileAt_toL hi
theorem fsOk_len {n : Nat} {f : Nat → FileV} (h : fsOk n f = true) : n ≤ 60 := by
  simp only [fsOk, Bool.and_eq_true, decide_eq_true_eq] at h
  exact h.1.1
theorem fsOk_data {n i : Nat} {f : Nat → FileV} (h : fsOk n f = true) (hi : i < n) : (f i).data.size ≤ 200000 := by
  simp only [fsOk, Bool.and_eq_true, decide_eq_true_eq] at h
  exact Nat.le_trans (tot_one (g := dsz f) hi) h.2
theorem putF_len (n : Nat) (f : Nat → FileV) (s d : ByteArray) : (putF n f s d).length ≤ 2 * n + 1 := by
  have := putSt_len f s d n
  unfold putF
  split
  · omega
  · simp; omega
/-- what comes behind an op is not much, and made of what was there -/
theorem doF_len {n : Nat} {f : Nat → FileV} {o : OpV} : (doF n f o).1.length ≤ 2 * n + 1 := by
  unfold doF
  split
  · exact putF_len _ _ _ _
  · split
    · simp; omega
    · dsimp only
      have h1 := cutTo_len f o.name n
      split
      · exact Nat.le_trans (putF_len _ _ _ _) (by omega)
      · omega
theorem fileAt_mem {L : List FileV} {i : Nat} (hi : i < L.length) : fileAt L i ∈ L := by
  have e1 : fileAt L i = L[i] := by simp [fileAt, hi]
  rw [e1]
  exact List.getElem_mem hi
theorem doF_mem {n : Nat} {f : Nat → FileV} {o : OpV} (P : ByteArray → Prop) (Q : ByteArray → Prop) (hf : ∀ i, i < n → P (f i).name ∧ Q (f i).data) (hn : P o.name) (ht : P o.to) (hd : Q o.data) (ha : ∀ i, i < n → Q ((f i).data ++ o.data)) :
    ∀ x ∈ (doF n f o).1, P x.name ∧ Q x.data := by
  have look : ∀ x, lookF n f o.name = some x → ∃ i, i < n ∧ (f i).data = x := fun x h => by
    unfold lookF at h
    obtain ⟨i, hi, rfl⟩ := Option.map_eq_some_iff.1 h
    exact ⟨i, List.mem_range.1 (List.mem_of_find?_eq_some hi), rfl⟩
  intro x hx
  unfold doF at hx
  split at hx
  · rcases mem_putF hx with rfl | ⟨i, hi, rfl⟩
    · refine ⟨hn, ?_⟩
      unfold addD
      split
      · obtain ⟨i, hi, rfl⟩ := look _ (by assumption)
        exact ha i hi
      · exact hd
    · exact hf i hi
  · split at hx
    · obtain ⟨i, hi, rfl⟩ := List.mem_map.1 hx
      exact hf i (List.mem_range.1 hi)
    · rename_i y hy
      have cut : ∀ z ∈ cutTo f o.name n, P z.name ∧ Q z.data := fun z hz => by obtain ⟨i, hi, rfl⟩ := mem_cutTo hz; exact hf i hi
      dsimp only at hx
      split at hx
      · rcases mem_putF hx with rfl | ⟨i, hi, rfl⟩
        · obtain ⟨i, hi, rfl⟩ := look _ hy
          exact ⟨ht, (hf i hi).2⟩
        · exact cut _ (fileAt_mem hi)
      · exact cut x hx
end Go.Proofs.Ytcchpeebhkiacaa
