/- maps.Keys and slices.Sorted over a map of levels: a new slice that holds its keys, rising. -/
import Derived.Test.YtaaeeaknjlammaaGreatDoorV
import Derived.Test.YtaaeeaknjlammaaGreatDoorR
import Derived.Test.YtaaeeaknjlammaaGreatDoorZA
namespace Go.Proofs.YtaaeeaknjlammaaGreatDoor
open Go.RowKit Go.Maps Go.Sort Go.Shelf Go.Deep
open Go.WideShapes (add_plain)

theorem Tryz.sortsA (m : Nat) : AnyZI.SortsIn Tryz.prog Tryz.sortedA_ren Fence.wide m :=
  ⟨fun blk off cap ss W hH hblk hsz => callsIn_wide.2 (AnyM.slices_Sort_int Tryz.sortA blk off cap ss W hH hblk hsz),
   fun p cap W => callsIn_wide.2 (AnyM.slices_Sort_int_none Tryz.sortA p cap W)⟩

theorem keys_any (mb : Option Nat) (W : World) : Calls Tryz.prog 99 #[.map mb] W fun e w' => e = .returned (.func (.func 114) #[] #[.pointer (some ⟨W.heap.size, 0, none⟩)]) ∧ w' = W.alloc (.cells #[.map mb] 135) :=
  (callsIn_wide (n := 5)).1 (AnyZI.keys_in Tryz.keysA Fence.wide 5 trivial rfl mb W)

theorem mem_intKeys {w : World} {b n : Nat} {D : DataW Unit} (hown : w.ownsMap Tryz.prog 2 (plainElem Tryz.prog 2) b n D) : (intKeys D).Nodup ∧ ∀ x, x ∈ intKeys D ↔ Maps.has D (.int .i64 x) = true := by
  obtain ⟨es, hD, hpw, _⟩ := hown.entries keyed2
  obtain ⟨es', hD', hko⟩ := hown.keysOf
  obtain rfl : es = es' := by rw [hD] at hD'; simpa using hD'
  subst hD
  have hk : ∀ p ∈ es, ∃ x, p.1 = .int .i64 x := fun p hp => by
    obtain ⟨v, hv⟩ := hko p hp
    obtain ⟨x, _, hx, _⟩ := Maps.keyOf_i64 Tryz.underlying2 hv
    exact ⟨x, hx⟩
  constructor
  · show (es.map fun p => Go.intOf p.1).Nodup
    refine List.pairwise_map.2 (hpw.imp_of_mem fun {p q} hp' hq' hne e => hne ?_)
    obtain ⟨a, ha⟩ := hk p hp'
    obtain ⟨b, hb⟩ := hk q hq'
    rw [ha, hb] at e ⊢
    exact congrArg _ e
  · intro x
    rw [has_eq, List.any_eq_true]
    show x ∈ es.map (fun p => Go.intOf p.1) ↔ _
    rw [List.mem_map]
    constructor
    · rintro ⟨p, hp', rfl⟩
      obtain ⟨a, ha⟩ := hk p hp'
      exact ⟨p, hp', by rw [ha]; simp [Lit.sameKey, Go.intOf]⟩
    · rintro ⟨p, hp', hs⟩
      obtain ⟨a, ha⟩ := hk p hp'
      rw [ha] at hs
      exact ⟨p, hp', by rw [ha]; simpa [Lit.sameKey, Go.intOf] using hs⟩

/-- the list by its places -/
def nth (l : List Int) (i : Nat) : Int := l.getD i 0

theorem rises_sorted {l : List Int} (hs : l.Pairwise (fun a b => a ≤ b)) (hn : l.Nodup) : ∀ j, j < l.length → ∀ i, i < j → nth l i < nth l j := by
  intro j hj i hi
  have hp := hs.and hn
  have := List.pairwise_iff_getElem.1 hp i j (by omega) hj hi
  simp only [nth, List.getD_eq_getElem?_getD, List.getElem?_eq_getElem hj, List.getElem?_eq_getElem (show i < l.length by omega), Option.getD_some]
  have h1 := this.1
  have h2 := this.2
  omega

theorem IntsAt.of_owns {w : World} {B n : Nat} {v : Value} {l : List Int} (h : w.ownsRow B 2 1 v n (l.map Go.encZ)) : l.length = n ∧ ∃ a c, v = .slice a n c ∧ IntsAt w a n (nth l) ∧ ∀ x, a = some x → B ≤ x.block := by
  have hl : l.length = n := by have := h.1; simpa using this
  refine ⟨hl, ?_⟩
  rcases h.2 with ⟨rfl, rfl⟩ | ⟨gb, cap, cur, rfl, _⟩
  · exact ⟨_, _, rfl, (fun h0 => by omega), fun x e => by cases e⟩
  · refine ⟨_, _, rfl, fun h0 => ?_, fun x e => by cases e; exact (World.ownsRow.lt h gb rfl).1⟩
    have hc := World.ownsRow.cells h (g := gb) rfl
    have hlt := (World.ownsRow.lt h gb rfl).2
    refine ⟨gb, 0, rfl, hlt, fun i hi => ?_⟩
    have hi' : i < l.length := by omega
    have t := hc i (Go.encZ l[i]) (by simp [hi'])
    rw [add_plain] at t
    rw [t]
    simp [nth, hi']

/-- block b is a map of at most n entries whose keys are those that p says -/
def KeysAre (w : World) (b n : Nat) (p : Int → Bool) : Prop :=
  ∃ D : DataW Unit, w.ownsMap Tryz.prog 2 (plainElem Tryz.prog 2) b n D ∧ ∀ x, Maps.has D (.int .i64 x) = p x

theorem MapIs.keys {w : World} {b n : Nat} {m : Int → Option Int} (h : MapIs w b n m) : KeysAre w b n (fun x => (m x).isSome) := by
  obtain ⟨D, h1, _, h3⟩ := h
  exact ⟨D, h1, fun x => (h3 x).1⟩

set_option maxHeartbeats 1000000 in
theorem sorted_any (b nn : Nat) (p : Int → Bool) (w : World) (hm : KeysAre w b nn p) (hnn : nn ≤ 4194304) :
    Calls Tryz.prog 98 #[.func (.func 114) #[] #[.pointer (some ⟨w.heap.size, 0, none⟩)]] (w.alloc (.cells #[.map (some b)] 135)) fun e w' => ∃ (a : Option Addr) (n cap : Nat) (h : Nat → Int), e = .returned (.slice a n cap) ∧ n ≤ nn ∧
      IntsAt w' a n h ∧ (∀ x, (∃ i, i < n ∧ h i = x) ↔ p x = true) ∧ (∀ j, j < n → ∀ i, i < j → h i < h j) ∧ (∀ i, i < n → (Lit.int .i64 (h i)).wf = true) ∧ (∀ x, a = some x → w.heap.size ≤ x.block) ∧ Below w.heap.size w w' := by
  obtain ⟨D, hown, hall⟩ := hm
  have hbl := hown.lt
  have hsz := hown.size_le
  have hseq : SeqGives Fence.wide 2 Tryz.prog 114 #[.pointer (some ⟨w.heap.size, 0, none⟩)] Go.encZ (fun ss => ss.Perm (intKeys D)) (Maps.size D) (w.alloc (.cells #[.map (some b)] 135)) :=
    AnyZI.keys_gives (ρ := Tryz.keysA_ren) { Tryz.keysA with } Fence.wide _ trivial rfl (by omega) w.heap.size b nn D _ (by simp) (by simp) (by
      obtain ⟨es, clock, hb, Ft, hs, hD⟩ := hown
      exact ⟨es, clock, (Below.heap_alloc _ _ b hbl).trans hb, Ft, hs, hD⟩)
  have cS := AnyZI.sorted_in Tryz.sortedA Fence.wide 5 trivial trivial trivial trivial rfl (by omega) (Tryz.sortsA _) (enters_of Tryz.func104 (by kernel_rfl) rfl) 114 #[.pointer (some ⟨w.heap.size, 0, none⟩)] trivial (enters_of Tryz.func114 (by kernel_rfl) rfl) _ _ (by unfold maxLen; omega) (by omega) _ hseq
  change CallsIn _ _ Tryz.prog 98 _ _ _ at cS
  refine ((callsIn_wide (n := 5)).1 cS).mono ?_
  rintro e w' ⟨v, ss, rfl, hp, hrow, _, hb⟩
  obtain ⟨hnd, hmem⟩ := mem_intKeys hown
  have hq : (ss.mergeSort (fun x y => decide (x ≤ y))).Perm (intKeys D) := (List.mergeSort_perm ss _).trans hp
  obtain ⟨hlen, a, c, rfl, hat, hnew⟩ := IntsAt.of_owns (B := _) hrow
  have hle : ss.length ≤ nn := by
    have h1 := hp.length_eq
    have h2 : (intKeys D).length = Maps.size D := by
      obtain ⟨es, rfl, _⟩ := hown.keysOf
      simp [intKeys, Maps.size]
    omega
  have tr : ∀ a b c : Int, decide (a ≤ b) = true → decide (b ≤ c) = true → decide (a ≤ c) = true := fun a b c h1 h2 => by simp only [decide_eq_true_eq] at *; omega
  have to : ∀ a b : Int, (decide (a ≤ b) || decide (b ≤ a)) = true := fun a b => by simp only [Bool.or_eq_true, decide_eq_true_eq]; omega
  have hsorted := (List.pairwise_mergeSort (le := fun x y => decide (x ≤ y)) tr to ss).imp (fun {a b} h => by simpa using h : ∀ {a b : Int}, _ → a ≤ b)
  refine ⟨a, ss.length, c, nth (ss.mergeSort (fun x y => decide (x ≤ y))), rfl, hle, hat, fun x => ?_, ?_, fun i hi => ?_, fun x e => by have := hnew x e; simp at this; omega, ?_⟩
  · rw [← hall x, ← hmem x, ← hq.mem_iff]
    constructor
    · rintro ⟨i, hi, rfl⟩
      have hi' : i < (ss.mergeSort (fun x y => decide (x ≤ y))).length := by omega
      simp only [nth, List.getD_eq_getElem?_getD, List.getElem?_eq_getElem hi', Option.getD_some]
      exact List.getElem_mem hi'
    · intro hx
      obtain ⟨i, hi, rfl⟩ := List.mem_iff_getElem.1 hx
      exact ⟨i, by omega, by simp only [nth, List.getD_eq_getElem?_getD, List.getElem?_eq_getElem hi, Option.getD_some]⟩
  · have := rises_sorted hsorted (hq.nodup_iff.2 hnd)
    rw [hlen] at this
    exact this
  · have hi' : i < (ss.mergeSort (fun x y => decide (x ≤ y))).length := by omega
    refine intKeys_wf hown Tryz.underlying2 _ (hq.mem_iff.1 ?_)
    simp only [nth, List.getD_eq_getElem?_getD, List.getElem?_eq_getElem hi', Option.getD_some]
    exact List.getElem_mem hi'
  · exact ((Below.refl _ w).alloc (Nat.le_refl _) _).trans (hb.mono (by simp))

theorem clone_any (b nn : Nat) (m : Int → Option Int) (w : World) (hm : MapIs w b nn m) :
    Calls Tryz.prog 96 #[.map (some b)] w fun e w' => e = .returned (.map (some w.heap.size)) ∧ KeysAre w' w.heap.size nn (fun x => (m x).isSome) ∧ Below w.heap.size w w' := by
  obtain ⟨D, hown, hall⟩ := hm.keys
  have hcon := AnyW.maps_Clone_owns Tryz.cloneA 2 (plainElem Tryz.prog 2) b nn D w hown
  change Calls Tryz.prog 96 _ _ _ at hcon
  refine hcon.mono ?_
  rintro e w' ⟨rfl, h1, _, hB⟩
  exact ⟨rfl, ⟨D, h1, hall⟩, hB⟩

theorem has_merge {w w' : World} {b n b' n' : Nat} {D D' : DataW Unit} (h : w.ownsMap Tryz.prog 2 (plainElem Tryz.prog 2) b n D) (h' : w'.ownsMap Tryz.prog 2 (plainElem Tryz.prog 2) b' n' D') (k : Lit) :
    Maps.has (Lib.mergeD D D') k = (Maps.has D k || Maps.has D' k) := by
  obtain ⟨es, rfl, _, hk⟩ := h'.entries keyed2
  exact has_foldPut k es D (h.tidy keyed2).isMap hk

theorem copy_any (bd bs nd ns : Nat) (p q : Int → Bool) (w : World) (hd : KeysAre w bd nd p) (hs : KeysAre w bs ns q) (hne : bd ≠ bs) (hroom : nd + ns ≤ 4194304) :
    Calls Tryz.prog 97 #[.map (some bd), .map (some bs)] w fun e w' => e = .returned (.tuple #[]) ∧ KeysAre w' bd (nd + ns) (fun x => p x || q x) ∧ w.grownBy w' (some bd) := by
  obtain ⟨D, hD, hp⟩ := hd
  obtain ⟨E, hE, hq⟩ := hs
  have hsz := hE.size_le
  have hcon := AnyX.maps_Copy Tryz.copyA keyed2 (plainElem Tryz.prog 2) bd bs nd ns D E w hD hE hne (by unfold maxLen; omega)
  change Calls Tryz.prog 97 _ _ _ at hcon
  refine hcon.mono ?_
  rintro e w' ⟨rfl, h1, _, hg⟩
  exact ⟨rfl, ⟨_, h1.mono (by omega), fun x => by rw [has_merge hD hE, hp, hq]⟩, hg⟩

set_option maxHeartbeats 1000000 in
theorem namedBy_any (b1 : Int) (c1 n1 : Nat) (m1 : Int → Option Int) (b2 : Int) (c2 n2 : Nat) (m2 : Int → Option Int) (w : World) (h1 : MapIs w c1 n1 m1) (h2 : MapIs w c2 n2 m2) (hn : n1 + n2 ≤ 4194304) :
    Calls Tryz.prog 84 #[.agg #[.int .i64 b1, .map (some c1)], .agg #[.int .i64 b2, .map (some c2)]] w fun e w' => ∃ (a : Option Addr) (n cap : Nat) (h : Nat → Int), e = .returned (.slice a n cap) ∧ n ≤ n1 + n2 ∧
      IntsAt w' a n h ∧ (∀ x, (∃ i, i < n ∧ h i = x) ↔ ((m1 x).isSome || (m2 x).isSome) = true) ∧ (∀ j, j < n → ∀ i, i < j → h i < h j) ∧ (∀ i, i < n → (Lit.int .i64 (h i)).wf = true) ∧ Below w.heap.size w w' := by
  have hb0 := ((Below.refl _ w).alloc (Nat.le_refl _) (.cells #[.int .i64 b1, .map (some c1)] 137)).alloc (by simp) (.cells #[.int .i64 b2, .map (some c2)] 137)
  have lt2 := h2.lt
  have e1 := h1.below hb0
  go_enter Tryz.func84, Tryz.ntmps84
  go_wp2_with fail
  refine (clone_any _ _ _ _ e1).mono ?_
  rintro e w1 ⟨rfl, k1, hb1⟩
  obtain ⟨q1, _⟩ := bcell hb1
  have z1 : w.heap.size + 1 + 1 ≤ w1.heap.size := by have := hb1.size; simpa using this
  have B1 : Below w.heap.size w w1 := hb0.trans (hb1.mono (by simp; omega))
  have e2 := (h2.below B1).keys
  simp at k1
  go_wp2_with fail
  refine (copy_any _ _ _ _ _ _ _ k1 e2 (by omega) hn).mono ?_
  rintro e w2 ⟨rfl, k2, hg2⟩
  have G2 : Below (w.heap.size + 1 + 1) w1 w2 := (Below.refl _ _).grown hg2 z1 (fun k e => by cases e; exact Nat.le_refl _)
  have B2 : Below w.heap.size w w2 := B1.trans (G2.mono (by omega))
  clear q1
  go_wp2_with fail
  refine (keys_any _ _).mono ?_
  rintro e w3 ⟨rfl, rfl⟩
  go_wp2_with fail
  refine (sorted_any _ _ _ _ k2 hn).mono ?_
  rintro e w4 ⟨a, n, cap, h, rfl, hle, hat, hmem, hris, hwf, _, hb4⟩
  go_wp2
  go_ret
  exact ⟨a, n, cap, h, rfl, hle, hat, hmem, hris, hwf, B2.trans (hb4.mono B2.size)⟩
end Go.Proofs.YtaaeeaknjlammaaGreatDoor
