/- The files of a shelf: names sorted, pieces joined. -/
import Derived.Test.YtcchpeebhkiacaaEC
import Derived.Test.YtcchpeebhkiacaaV
namespace Go.Proofs.Ytcchpeebhkiacaa
open Go Go.RowKit Go.Deep Go.Maps Go.Sort Go.Shelf
open Go.WideShapes (add_plain)

theorem Try.joinX : Builder.Extra Try.prog Try.joinA_ren := {
  sizeBuilder := by kernel_rfl
  liesBuilder := by kernel_rfl
  t5 := Try.underlying5
  a5 := Try.isAgg5
  z5 := Try.sizeOf5
  v5 := Try.zeroValue5
  infoByte := by kernel_rfl
  cellsByte := by kernel_rfl
  sizeByte := by kernel_rfl
  neB5 := by decide }
theorem inter_nil : ∀ xs : List (List UInt8), ([] : List UInt8).intercalate xs = xs.flatten
  | [] => rfl
  | [x] => by simp [List.intercalate]
  | x :: y :: r => by
    have ih := inter_nil (y :: r)
    simp only [List.intercalate, List.intersperse_cons_cons, List.flatten_cons, List.nil_append] at ih ⊢
    rw [ih]
theorem join_any {w : World} {B : Nat} {v : Value} {l : List ByteArray} {d : ByteArray} (h : OwnS w B v l) (hd : (l.map key).flatten = key d) (hz : d.size ≤ 1000000000) (hq : l.length ≤ 1000000) :
    Calls Try.prog 52 #[v, .string ⟨#[]⟩] w fun e w' => e = .returned (.string d) ∧ Below w.heap.size w w' := by
  have e0 : Lib.join (l.map (·.data.toList)) (⟨#[]⟩ : ByteArray).data.toList = key d := by
    rw [← hd]
    exact inter_nil _
  by_cases h0 : l.length = 0
  · obtain ⟨a, c, rfl⟩ := ownsRow_shape h
    rw [h0]
    have c1 := Any.strings_Join_none Try.joinA Try.joinX a c ⟨#[]⟩ w
    change Calls Try.prog 52 _ _ _ at c1
    refine c1.mono ?_
    rintro e w' ⟨rfl, rfl⟩
    have : l = [] := List.length_eq_zero_iff.1 h0
    subst this
    have : d = ⟨#[]⟩ := key_inj (by rw [← hd]; rfl)
    rw [this]
    exact ⟨rfl, Below.refl _ _⟩
  · obtain ⟨g, cap, rfl, _, _⟩ := World.ownsRow.form h (by omega)
    have hcap : l.length ≤ cap := by
      rcases h.2 with ⟨hv, _⟩ | ⟨g', cap', cur, hv, _, _, h1, _⟩
      · cases hv
      · simp only [Value.slice.injEq] at hv
        rw [hv.2.2]
        exact h1
    have hlt := (World.ownsRow.lt h g rfl).2
    have hc := World.ownsRow.cells h (g := g) rfl
    have c1 := Any.strings_Join Try.joinA Try.joinX g 0 cap l ⟨#[]⟩ w (fun j x hx => by
      have t := hc j (.string x) (by simp [scells, hx])
      rw [add_plain] at t
      exact t) hlt (by omega) hcap (by rw [e0]; have : (key d).length = d.size := Array.length_toList; omega)
    change Calls Try.prog 52 _ _ _ at c1
    refine c1.mono ?_
    rintro e w' ⟨rfl, hb⟩
    rw [e0]
    exact ⟨rfl, hb⟩
theorem Try.sortsA (m : Nat) : AnyZ.SortsIn Try.prog Try.sortedA_ren Fence.wide m :=
  ⟨fun blk off cap ss W hH hblk hsz => callsIn_wide.2 (AnyM.slices_Sort_string Try.sortA blk off cap ss W hH hblk hsz),
   fun p cap W => callsIn_wide.2 (AnyM.slices_Sort_string_none Try.sortA p cap W)⟩
theorem keys_any (mb : Option Nat) (W : World) : Calls Try.prog 51 #[.map mb] W fun e w' => e = .returned (.func (.func 65) #[] #[.pointer (some ⟨W.heap.size, 0, none⟩)]) ∧ w' = W.alloc (.cells #[.map mb] 52) :=
  (callsIn_wide (n := 5)).1 (AnyZ.keys_in Try.keysA Fence.wide 5 trivial rfl mb W)
theorem mem_strKeys {w : World} {b n : Nat} {D : DataW Unit} (hown : w.ownsMap Try.prog 9 ptrElem b n D) : (strKeys D).Nodup ∧ ∀ x, x ∈ strKeys D ↔ Maps.has D (.string x) = true := by
  obtain ⟨es, hD, hpw, _⟩ := hown.entries keyedS
  obtain ⟨es', hD', hko⟩ := hown.keysOf
  obtain rfl : es = es' := by rw [hD] at hD'; simpa using hD'
  subst hD
  have hk : ∀ p ∈ es, ∃ x, p.1 = .string x := fun p hp => by
    obtain ⟨v, hv⟩ := hko p hp
    obtain ⟨s, _, h2, _⟩ := WideMaps.string_of_keyOf Try.underlying9 hv
    exact ⟨_, h2⟩
  constructor
  · show (es.map fun p => Go.strOf p.1).Nodup
    refine List.pairwise_map.2 (hpw.imp_of_mem fun {p q} hp' hq' hne e => hne ?_)
    obtain ⟨a, ha⟩ := hk p hp'
    obtain ⟨b, hb⟩ := hk q hq'
    rw [ha, hb] at e ⊢
    exact congrArg _ e
  · intro x
    rw [has_eq, List.any_eq_true]
    show x ∈ es.map (fun p => Go.strOf p.1) ↔ _
    rw [List.mem_map]
    constructor
    · rintro ⟨p, hp', rfl⟩
      obtain ⟨a, ha⟩ := hk p hp'
      exact ⟨p, hp', by rw [ha]; simp [Lit.sameKey, Go.strOf]⟩
    · rintro ⟨p, hp', hs⟩
      obtain ⟨a, ha⟩ := hk p hp'
      rw [ha] at hs
      exact ⟨p, hp', by rw [ha]; simpa [Lit.sameKey, Go.strOf] using hs⟩
set_option maxHeartbeats 1000000 in
/-- the names of a shelf that stands for rising files: just theirs, in their order -/
theorem sorted_any {w : World} {B c n q : Nat} {M : List FileV} (h : SL w B c n q M) (hM : Rise M) (hn : n ≤ 4194304) :
    Calls Try.prog 50 #[.func (.func 65) #[] #[.pointer (some ⟨w.heap.size, 0, none⟩)]] (w.alloc (.cells #[.map (some c)] 52)) fun e w' => ∃ (a : Option Addr) (cap : Nat), e = .returned (.slice a M.length cap) ∧
      (0 < M.length → ∃ g, a = some ⟨g, 0, none⟩ ∧ g < w'.heap.size ∧ ∀ i, i < M.length → w'.cell? ⟨g, i, none⟩ = some (.string (fileAt M i).name)) ∧ (∀ x, a = some x → w.heap.size ≤ x.block) ∧ Below w.heap.size w w' := by
  obtain ⟨m, pv, ps, hS⟩ := h
  obtain ⟨D, hown, hD, hall⟩ := hS.map
  have hbl := hown.lt
  have hsz := hown.size_le
  have hseq : SeqGives Fence.wide 2 Try.prog 65 #[.pointer (some ⟨w.heap.size, 0, none⟩)] encStr (fun ss => ss.Perm (strKeys D)) (Maps.size D) (w.alloc (.cells #[.map (some c)] 52)) :=
    AnyZ.keys_gives (ρ := Try.keysA_ren) { Try.keysA with } Fence.wide _ trivial rfl (by omega) w.heap.size c n D (R := ptrElem) _ (by simp) (by simp) (by
      obtain ⟨es, clock, hb, Ft, hs, hD⟩ := hown
      exact ⟨es, clock, (Below.heap_alloc _ _ c hbl).trans hb, Ft, hs, hD⟩)
  have cS := AnyZ.sorted_in Try.sortedA Fence.wide 5 trivial trivial trivial trivial rfl (by omega) (Try.sortsA _) (enters_of Try.func64 (by kernel_rfl) rfl) 65 #[.pointer (some ⟨w.heap.size, 0, none⟩)] trivial (enters_of Try.func65 (by kernel_rfl) rfl) _ _ (by unfold maxLen; omega) (by omega) _ hseq
  change CallsIn _ _ Try.prog 50 _ _ _ at cS
  refine ((callsIn_wide (n := 5)).1 cS).mono ?_
  rintro e w' ⟨v, ss, rfl, hp, hrow, _, hb⟩
  obtain ⟨hnd, hmem⟩ := mem_strKeys hown
  have hq : (ss.mergeSort (fun x y => decide (x ≤ y))).Perm (strKeys D) := (List.mergeSort_perm ss _).trans hp
  have tr : ∀ a b c : List UInt8, decide (a ≤ b) = true → decide (b ≤ c) = true → decide (a ≤ c) = true := fun a b c h1 h2 => by
    simp only [decide_eq_true_eq] at *
    exact List.le_trans h1 h2
  have to : ∀ a b : List UInt8, (decide (a ≤ b) || decide (b ≤ a)) = true := fun a b => by
    simp only [Bool.or_eq_true, decide_eq_true_eq]
    exact List.le_total a b
  have hsorted := List.pairwise_mergeSort (le := fun x y => decide (x ≤ y)) tr to ss
  have nd : (ss.mergeSort (fun x y => decide (x ≤ y))).Nodup := hq.nodup_iff.2 hnd
  have strict : (ss.mergeSort (fun x y => decide (x ≤ y))).Pairwise (· < ·) := (hsorted.and nd).imp fun {a b} h => klt_tri (by have := h.1; simp only [decide_eq_true_eq] at this; exact fun hlt => absurd this (List.not_le.2 hlt)) (fun e => h.2 e.symm)
  have eq : ss.mergeSort (fun x y => decide (x ≤ y)) = M.map FileV.k := sorted_eq strict (List.pairwise_map.2 hM) fun x => by
    rw [hq.mem_iff, hmem, (hall x).1, hS.dom, lookL_some, List.mem_map]
  have hlen : ss.length = M.length := by
    have := congrArg List.length eq
    simpa using this
  rw [eq, hlen] at hrow
  obtain ⟨a, cap, rfl⟩ := ownsRow_shape hrow
  have hb2 : Below w.heap.size w w' := ((Below.refl _ w).alloc (Nat.le_refl _) _).trans (hb.mono (by simp))
  refine ⟨a, cap, rfl, fun h0 => ?_, fun x e => ?_, hb2⟩
  · obtain ⟨g, cap', hv, _⟩ := World.ownsRow.form hrow (by omega)
    simp only [Value.slice.injEq] at hv
    obtain ⟨rfl, _, _⟩ := hv
    refine ⟨g, rfl, (World.ownsRow.lt hrow g rfl).2, fun i hi => ?_⟩
    have t := World.ownsRow.cells hrow (g := g) rfl i (.string (fileAt M i).name) (by
      rw [fileAt_get hi, List.getElem?_map, List.getElem?_map, List.getElem?_eq_getElem hi]
      rfl)
    rw [add_plain, Nat.zero_add] at t
    exact t
  · subst e
    rcases hrow.2 with ⟨hv, _⟩ | ⟨g, cap', cur, hv, hg, _⟩
    · cases hv
    · simp only [Value.slice.injEq, Option.some.injEq] at hv
      rw [hv.1]
      have hg' : (w.alloc (.cells #[.map (some c)] 52)).heap.size ≤ g := hg
      simp at hg'
      show w.heap.size ≤ g
      omega
theorem take_len {M : List FileV} {k : Nat} (h : k ≤ M.length) : (M.take k).length = k := by simp; omega

set_option maxRecDepth 100000 in
set_option maxHeartbeats 4000000 in
theorem files_any {w : World} {B c n q : Nat} {M : List FileV} (h : SL w B c n q M) (hM : Rise M) (hn : n ≤ 4194304) (hw : ∀ f ∈ M, f.wf) (hz : bytesL M ≤ 1000000000) (hq : q ≤ 1000000) (hl : M.length ≤ 1000000) :
    Calls Try.prog 26 #[.map (some c)] w fun e w' => ∃ v, e = .returned v ∧ OwnF w' w.heap.size v M ∧ Below w.heap.size w w' := by
  have CK := hid (keys_any (some c) w)
  have CS := hid (sorted_any h hM hn)
  have HH := hid h
  have HM := hid hM
  have HW := hid hw
  have HZ := hid hz
  clear h hM hw hz
  go_enter Try.func26, Try.ntmps26
  go_wp2_with (first
    | (go_at_call 51; refine CK.out.mono ?_; rintro e w0 ⟨rfl, rfl⟩)
    | (go_at_call 50; refine CS.out.mono ?_; rintro e w1 ⟨a, cap, rfl, hc, hlow, hb1⟩))
  have HC := hid hc
  have HB1 := hid hb1
  clear hc hb1 CK CS
  go_loopw [3, 10] (fun v i wr => ∃ (k : Nat) (x : Option Addr) (cc : Nat), k ≤ M.length ∧ i = .int .i64 k ∧ v = .slice x k cc ∧ OwnF wr w.heap.size (.slice x k cc) (M.take k) ∧ (∀ y, (Value.slice x k cc).ownBlock = some y → w1.heap.size ≤ y) ∧ Below w1.heap.size w1 wr) (fun _ i _ => M.length - (intOf i).toNat)
  case atStart => exact ⟨0, _, _, Nat.zero_le _, rfl, rfl, OwnF.nil _ _, fun y e => (by cases e), Below.refl _ _⟩
  case round =>
    obtain ⟨k, x, cc, hk, rfl, rfl, hO, hown, hB⟩ := hrel
    have HO := hid hO
    have HOw := hid hown
    clear hO hown
    have Bw : Below w.heap.size w wr := HB1.out.trans (hB.mono HB1.out.size)
    by_cases hlt' : k < M.length
    · obtain ⟨g, rfl, hlt, hcc⟩ := HC.out (by omega)
      have g1 : wr.cell? ⟨g, k, none⟩ = some (.string (fileAt M k).name) := (hB.cell (p := ⟨g, _, none⟩) hlt).trans (hcc k hlt')
      have i0 : (0 : Int) ≤ (k : Int) := by omega
      have i1 : (k : Int) < (M.length : Int) := by omega
      have mem : fileAt M k ∈ M := fileAt_mem hlt'
      have hlk := lookL_mem HM.out _ mem
      have hwf := HW.out _ mem
      have hby := look_bytes hlk
      have ET : Hid (M.take (k + 1) = M.take k ++ [fileAt M k]) := hid (by rw [take_get M hlt', fileAt_get hlt'])
      obtain ⟨m, pv, ps, hS⟩ := HH.out.below Bw
      obtain ⟨b, hb⟩ := Option.isSome_iff_exists.1 (show (m (fileAt M k).k).isSome = true by rw [hS.dom, hlk]; rfl)
      have hlook := hS.map.look hwf.1
      rw [show m (key (fileAt M k).name) = some b from hb] at hlook
      simp only [Option.map_some] at hlook
      have bl := hS.blk _ _ _ hb hlk
      obtain ⟨y0, y1⟩ := bl.two
      have ho := hS.own _ _ hlk
      have CJ := hid (join_any ho.1 ho.2.1 (d := (fileAt M k).data) (by have := HZ.out; omega) (by have := ho.2.2; omega))
      obtain ⟨f, hf⟩ : ∃ f, f = fileAt M k := ⟨_, rfl⟩
      rw [← hf] at g1 hlook y0 y1 CJ ET
      obtain ⟨P, hP⟩ : ∃ P, P = pv f.k := ⟨_, rfl⟩
      rw [← hf, ← hP] at bl ho
      have y0' : wr.cell? ⟨b, 0, none⟩ = some P := by rw [hP]; exact y0
      have CJ' : Hid (Calls Try.prog 52 #[P, .string ⟨#[]⟩] wr fun e w' => e = .returned (.string f.data) ∧ Below wr.heap.size wr w') := hid (by rw [hP]; exact CJ.out)
      have bz := hB.size
      have bz2 := Bw.size
      have lt' := take_len (M := M) hk
      have EL := hid lt'
      obtain ⟨L, hL⟩ : ∃ L, L = M.take k := ⟨_, rfl⟩
      have HL := hid hL
      rw [← hL] at lt' HO ET
      have lR : (L ++ [f]).length ≤ 4194304 := by simp; omega
      clear mem hlk hwf hby hS hb bl ho CJ hP y0 hf hL HC EL
      have HLk : Hid (L.length = k) := hid lt'
      subst lt'
      go_wp2_with (first
        | (go_at_call 52; refine CJ'.out.mono ?_; rintro e w2 ⟨rfl, hb2⟩; have HB2 := hid hb2; have O2 := hid (HO.out.below hb2); have z2 := hb2.size; clear hb2)
        | (at_builtin; refine wpList_append_files _ rfl _ _ rfl w.heap.size (.slice x L.length cc) L rfl (O2.out.alloc _) _ _ _ [f] rfl rfl (FilL.one f) (L ++ [f]) rfl lR (by simp; omega) ?_; intro a1 c1 w3 o3 q3 h3))
      have EK : (L ++ [f]).length = L.length + 1 := by simp
      rw [EK] at o3 h3
      have B3 : Below w1.heap.size w1 w3 := ((hB.trans (HB2.out.mono bz)).alloc (Nat.le_trans bz z2) _).trans (below_grown q3 (by simp; omega) HOw.out)
      go_roundw
      case rel => exact ⟨L.length + 1, a1, c1, by omega, by go_num, rfl, by rw [ET.out]; exact o3, fun y hy => by
        rcases h3 with h3 | h3
        · exact HOw.out y (h3 ▸ hy)
        · rw [h3] at hy
          cases hy
          simp
          omega, B3⟩
      case measure => simp [intOf]; omega
    · obtain rfl : k = M.length := by omega
      go_wp2
      go_ret
      have := HO.out
      rw [List.take_length] at this
      exact ⟨_, rfl, this, Bw⟩
end Go.Proofs.Ytcchpeebhkiacaa
