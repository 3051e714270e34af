/- The reader's lists of routes; what DrawPortFor and DrawRouted draw. -/
import Derived.Test.YthlejmofhcgkdaaDX
namespace Go.Proofs.Ythlejmofhcgkdaa
open Go Go.RowKit Go.Deep Go.Maps

theorem OwnR.grown {w w' : World} {B g n c rb : Nat} {l : List R3} (h : OwnR w B (.slice (some ⟨g, 0, Option.none⟩) n c) l) (hg : w.grownBy w' (some rb)) (hr : rb < B) : OwnR w' B (.slice (some ⟨g, 0, Option.none⟩) n c) l :=
  World.ownsRow.kept h hg (.inr (fun e => by have := (World.ownsRow.lt h rb e).1; omega))

theorem own_cap {w : World} {B g c : Nat} {X : List R3} (h : OwnR w B (.slice (some ⟨g, 0, Option.none⟩) X.length c) X) : X.length ≤ c := by
  rcases h.2 with ⟨hv, _⟩ | ⟨g', cap, cur, hv, _, hh, hnc, _⟩
  · simp at hv
  · simp only [Value.slice.injEq] at hv
    obtain ⟨_, _, rfl⟩ := hv
    exact hnc
theorem BytesAt.below {w W : World} {a : Option Addr} {n : Nat} (h : BytesAt w a n) (hb : Below w.heap.size w W) : BytesAt W a n := fun hn => by
  obtain ⟨b, off, e, hlt, hc⟩ := h hn
  exact ⟨b, off, e, Nat.lt_of_lt_of_le hlt hb.size, fun i hi => by
    obtain ⟨v, h1, h2⟩ := hc i hi
    exact ⟨v, (hb.cell (p := ⟨b, off + i, none⟩) hlt).trans h1, h2⟩⟩

set_option maxRecDepth 100000 in
set_option maxHeartbeats 2000000 in
theorem rdRoutes_any (w0 : World) (rb : Nat) (a : Option Addr) (n cap : Nat) (w : World) (h : Rd w0 w rb a n cap) :
    Calls Try.prog 14 #[.pointer (some ⟨rb, 0, none⟩)] w fun e w' => ∃ (X : List R3) (g c : Nat), e = .returned (.slice (some ⟨g, 0, none⟩) X.length c) ∧ X.length ≤ 21 ∧ OwnR w' w.heap.size (.slice (some ⟨g, 0, none⟩) X.length c) X ∧ Rd w0 w' rb a n cap ∧ w.grownBy w' (some rb) := by
  have hrb : rb < w.heap.size := h.lt
  have K0 := (Below.refl _ w).alloc (Nat.le_refl _) (.cells #[] 29)
  have R0 := h.below K0
  have O0 := OwnR.none w
  have g0 := World.grownBy_alloc w (.cells #[] 29) (some rb)
  go_enter Try.func14, Try.ntmps14
  go_wp2_with fail
  refine (below_any w0 rb a n cap 6 _ (by omega) R0).mono ?_
  rintro e w1 ⟨x, rfl, _, hx3, R1, hg1⟩
  have O1 := O0.grown hg1 hrb
  have G1 : w.grownBy w1 (some rb) := grown_pair g0 hg1
  have hx : x < 6 := hx3 (by omega)
  clear K0 R0 O0 g0 hg1 h hx3
  go_wp2_with fail
  go_loopw [3, 4] (fun v i wr => ∃ (j : Nat) (L : List R3) (g c : Nat), j ≤ 5 ∧ i = .int .i64 j ∧ v = .slice (some ⟨g, 0, none⟩) L.length c ∧ L.length ≤ 20 ∧ OwnR wr w.heap.size (.slice (some ⟨g, 0, none⟩) L.length c) L ∧ Rd w0 wr rb a n cap ∧ w.grownBy wr (some rb)) (fun _ i _ => (intOf i).toNat)
  case atStart => exact ⟨x, [], w.heap.size, 0, by omega, rfl, rfl, by simp, O1, R1, G1⟩
  case round =>
    obtain ⟨j, L, g, c, hj, rfl, rfl, hL, O, R, G⟩ := hrel
    clear O1 R1 G1
    by_cases h0 : 0 < j
    · have h0' : (0 : Int) < (j : Int) := by omega
      go_wp2_with fail
      refine (oneRoute_any w0 rb a n cap _ R).mono ?_
      rintro e w2 ⟨x, y, z, rfl, R2, hg2⟩
      have O2 := O.grown hg2 hrb
      have G2 := grown_pair G hg2
      have A2 := ownAt O2
      clear O R G hg2
      have FIN : Hid (∀ (W : World), Below w2.heap.size w2 W → OwnR W w.heap.size (.slice (some ⟨g, 0, none⟩) L.length c) L ∧ Rd w0 W rb a n cap ∧ w.grownBy W (some rb)) := fun W hW => ⟨O2.below hW, R2.below hW, grown_trans G2 (grown_of_below hW) (fun j e => by cases e)⟩
      have le2 := G2.size
      cases ho : (rtsOk L.length (fun i => (at3 L i).1) (fun i => (at3 L i).2.1) (fun i => (at3 L i).2.2) && rOk x y z) with
      | false =>
        have C := hid (specRouted_no (some ⟨g, 0, none⟩) L.length c _ _ _ x y z w2 (by unfold maxLen; omega) A2 ho)
        clear ho A2 O2 R2 G2
        go_wp2_with (go_at_call 11; refine C.out.mono ?_; rintro e w3 ⟨rfl, h3⟩)
        obtain ⟨O3, R3, G3⟩ := FIN.out _ h3
        go_roundw
        case rel =>
          obtain ⟨q, rfl⟩ : ∃ q, j = q + 1 := ⟨j - 1, by omega⟩
          exact ⟨q, L, g, c, by omega, by go_num, rfl, hL, O3, R3, G3⟩
        case measure => simp [intOf]; omega
      | true =>
        have h2 := ho
        rw [Bool.and_eq_true] at h2
        have C := hid (specRouted_any (some ⟨g, 0, none⟩) L.length c _ _ _ x y z w2 (by unfold maxLen; omega) A2 h2.1 h2.2)
        clear ho h2 A2 O2 R2 G2
        generalize laidAll (fun i => (at3 L i).1) (fun i => (at3 L i).2.1) (fun i => (at3 L i).2.2) (x, y, z) L.length = M at *
        by_cases hm : M.length ≤ 20
        · have C' : Hid (Calls Try.prog 11 #[.slice (some ⟨g, 0, none⟩) L.length c, .agg #[.int .i64 x, .int .i64 y, .int .i64 z]] w2 fun e w' => ∃ g' c', e = .returned (.tuple #[.slice (some ⟨g', 0, none⟩) M.length c', .bool true]) ∧ OwnR w' w2.heap.size (.slice (some ⟨g', 0, none⟩) M.length c') M ∧ Below w2.heap.size w2 w') := C.out.mono fun e w' ⟨hB, hr⟩ => by
            rcases hr with ⟨_, g', c', he, ho⟩ | ⟨hl, _⟩
            · exact ⟨g', c', he, ho, hB⟩
            · omega
          clear C
          go_wp2_with (go_at_call 11; refine C'.out.mono ?_; rintro e w3 ⟨g', c', rfl, o3, h3⟩)
          obtain ⟨_, R3, G3⟩ := FIN.out _ h3
          go_roundw
          case rel =>
            obtain ⟨q, rfl⟩ : ∃ q, j = q + 1 := ⟨j - 1, by omega⟩
            exact ⟨q, M, g', c', by omega, by go_num, rfl, hm, o3.mono le2, R3, G3⟩
          case measure => simp [intOf]; omega
        · have C' : Hid (Calls Try.prog 11 #[.slice (some ⟨g, 0, none⟩) L.length c, .agg #[.int .i64 x, .int .i64 y, .int .i64 z]] w2 fun e w' => e = .returned (.tuple #[.slice none 0 0, .bool false]) ∧ Below w2.heap.size w2 w') := C.out.mono fun e w' ⟨hB, hr⟩ => by
            rcases hr with ⟨hl, _⟩ | ⟨_, he⟩
            · exact absurd hl hm
            · exact ⟨he, hB⟩
          clear C
          go_wp2_with (go_at_call 11; refine C'.out.mono ?_; rintro e w3 ⟨rfl, h3⟩)
          obtain ⟨O3, R3, G3⟩ := FIN.out _ h3
          go_roundw
          case rel =>
            obtain ⟨q, rfl⟩ : ∃ q, j = q + 1 := ⟨j - 1, by omega⟩
            exact ⟨q, L, g, c, by omega, by go_num, rfl, hL, O3, R3, G3⟩
          case measure => simp [intOf]; omega
    · obtain rfl : j = 0 := by omega
      go_wp2_with fail
      refine (once_any w0 rb a n cap 30 _ (by omega) R).mono ?_
      rintro e w2 ⟨b, rfl, R2, hg2⟩
      have O2 := O.grown hg2 hrb
      have G2 := grown_pair G hg2
      clear O R G hg2
      cases b with
      | false =>
        go_wp2
        go_ret
        exact ⟨L, g, c, rfl, by omega, O2, R2, G2⟩
      | true =>
        go_wp2_with fail
        refine (oneRoute_any w0 rb a n cap _ R2).mono ?_
        rintro e w3 ⟨x, y, z, rfl, R3, hg3⟩
        have O3 := O2.grown hg3 hrb
        have G3 := grown_pair G2 hg3
        clear O2 R2 G2 hg3
        have HO := hid (O3.alloc (.cells #[.int .i64 x, .int .i64 y, .int .i64 z] 29))
        have HL := hid (one_rt (w := w3) (x, y, z))
        have R4 := R3.below ((Below.refl _ w3).alloc (Nat.le_refl _) (.cells #[.int .i64 x, .int .i64 y, .int .i64 z] 29))
        have G4 : w.grownBy (w3.alloc (.cells #[.int .i64 x, .int .i64 y, .int .i64 z] 29)) (some rb) := grown_trans G3 (World.grownBy_alloc w3 _ none) (fun j e => by cases e)
        have sz := hid G4.size
        have HR4 := hid R4
        have HG4 := hid G4
        clear O3 R3 G3 R4 G4
        go_wp2_with (at_builtin; refine wpList_append_rt _ rfl _ _ rfl w.heap.size _ L rfl HO.out _ 1 (x, y, z) rfl HL.out (Nat.le_trans hL (by decide)) sz.out ?_; intro g5 c5 w5 O5 hg5)
        go_ret
        have gb := (World.ownsRow.lt HO.out g rfl).1
        have le0 := HR4.out.le
        refine ⟨L ++ [(x, y, z)], g5, c5, ?_, by simp; omega, O5, HR4.out.other hg5 (by dsimp only; omega) (by dsimp only; omega), grown_trans HG4.out hg5 (fun j e => by cases e; exact gb)⟩
        first | rfl | simp

/-- routes that a drawer gives: they lie there -/
def RtsX (w : World) (a : Option Addr) (X : List R3) : Prop := RtsAt w a X.length (fun i => (at3 X i).1) (fun i => (at3 X i).2.1) (fun i => (at3 X i).2.2)

set_option maxRecDepth 100000 in
set_option maxHeartbeats 1000000 in
theorem drawPort_any (a : Option Addr) (n cap : Nat) (w : World) (hn : n ≤ 1048576) (hb : BytesAt w a n) :
    Calls Try.prog 6 #[.slice a n cap] w fun e w' => ∃ (X : List R3) (g c : Nat) (t : Int), e = .returned (.tuple #[.slice (some ⟨g, 0, none⟩) X.length c, .int .i64 t]) ∧ X.length ≤ 21 ∧ RtsX w' (some ⟨g, 0, none⟩) X ∧ X.length ≤ c ∧ Below w.heap.size w w' := by
  have HB := hid hb
  clear hb
  go_enter Try.func6, Try.ntmps6
  go_wp2_with fail
  refine (l1Open_any a n cap _ hn HB.out).mono ?_
  rintro e w1 ⟨rb, rfl, R1⟩
  go_wp2_with fail
  refine (rdRoutes_any _ rb a n cap _ R1).mono ?_
  rintro e w2 ⟨X, g, c, rfl, hX, O2, R2, _⟩
  have lt1 := R1.lt
  clear R1
  go_wp2_with fail
  refine (once_any _ rb a n cap 12 _ (by omega) R2).mono ?_
  rintro e w3 ⟨b, rfl, R3, hg3⟩
  have O3 := O2.grown hg3 lt1
  clear R2 hg3 O2
  cases b with
  | true =>
    go_wp2_with fail
    refine (off_big _ rb a n cap 0 4294967295 _ (by decide) (by decide) R3).mono ?_
    rintro e w4 ⟨t, rfl, _, R4, hg4⟩
    have O4 := O3.grown hg4 lt1
    have E4 := R4.E
    clear R3 R4 hg4 O3
    have hcap := own_cap O4
    have A4 := ownAt O4
    clear O4
    go_wp2
    go_ret2
    exact ⟨X, g, c, t, rfl, hX, A4, hcap, E4⟩
  | false =>
    go_wp2_with fail
    refine (rdAddr_any _ rb a n cap _ R3).mono ?_
    rintro e w4 ⟨t, rfl, _, _, R4, hg4⟩
    have O4 := O3.grown hg4 lt1
    have E4 := R4.E
    clear R3 R4 hg4 O3
    have hcap := own_cap O4
    have A4 := ownAt O4
    clear O4
    go_wp2
    go_ret2
    exact ⟨X, g, c, t, rfl, hX, A4, hcap, E4⟩

set_option maxRecDepth 100000 in
set_option maxHeartbeats 1000000 in
theorem drawRouted_any (a : Option Addr) (n cap : Nat) (w : World) (hn : n ≤ 1048576) (hb : BytesAt w a n) :
    Calls Try.prog 9 #[.slice a n cap] w fun e w' => ∃ (X : List R3) (g c : Nat) (x y z : Int), e = .returned (.tuple #[.slice (some ⟨g, 0, none⟩) X.length c, .agg #[.int .i64 x, .int .i64 y, .int .i64 z]]) ∧ X.length ≤ 21 ∧ RtsX w' (some ⟨g, 0, none⟩) X ∧ X.length ≤ c ∧ Below w.heap.size w w' := by
  have K0 := (Below.refl _ w).alloc (Nat.le_refl _) (.cells #[.int .i64 0, .int .i64 0, .int .i64 0] 29)
  have D0 := Blk.new w (.cells #[.int .i64 0, .int .i64 0, .int .i64 0] 29)
  have HB : Hid (BytesAt (w.alloc (.cells #[.int .i64 0, .int .i64 0, .int .i64 0] 29)) a n) := hb.below K0
  have HK := hid K0
  clear hb K0
  go_enter Try.func9, Try.ntmps9
  go_wp2_with fail
  generalize w.alloc (.cells #[.int .i64 0, .int .i64 0, .int .i64 0] 29) = W at *
  refine (l1Open_any a n cap _ hn HB.out).mono ?_
  rintro e w1 ⟨rb, rfl, R1⟩
  have wl := D0.lt
  have rl := R1.le
  have D1 := D0.below R1.E
  go_wp2_with fail
  refine (rdRoutes_any _ rb a n cap _ R1).mono ?_
  rintro e w2 ⟨X, g, c, rfl, hX, O2, R2, hg2⟩
  have D2 := D1.grown hg2 (fun e => by have := Option.some.inj e; omega)
  have lt1 := R1.lt
  clear R1 hg2
  go_wp2_with fail
  refine (oneRoute_any _ rb a n cap _ R2).mono ?_
  rintro e w3 ⟨x, y, z, rfl, R3, hg3⟩
  have O3 := O2.grown hg3 lt1
  have D3 := D2.grown hg3 (fun e => by have := Option.some.inj e; omega)
  have E3 := R3.E
  clear R2 R3 hg3 O2 D0 D1 D2
  have gb := (World.ownsRow.lt O3 g rfl).1
  have hcap := own_cap O3
  obtain ⟨c0, c1, c2⟩ := D3.three
  obtain ⟨f0, f1, f2⟩ := D3.thaw3
  have wl1 : w.heap.size < w1.heap.size := Nat.lt_trans (Nat.lt_of_lt_of_le wl rl) lt1
  have gs : w3.grownBy (((w3.setCell ⟨w.heap.size, 0, none⟩ (.int .i64 x)).setCell ⟨w.heap.size, 1, none⟩ (.int .i64 y)).setCell ⟨w.heap.size, 2, none⟩ (.int .i64 z)) (some w.heap.size) := grown_set (grown_set (grown_set (grown_refl _ _) _ _) _ _) _ _
  have O4 := O3.grown gs wl1
  have A4 := hid (ownAt O4)
  have B3 : Hid (Below w.heap.size w w3) := HK.out.trans (E3.mono (by omega))
  have r1 : Blk (((w3.setCell ⟨w.heap.size, 0, none⟩ (.int .i64 x)).setCell ⟨w.heap.size, 1, none⟩ (.int .i64 y)).setCell ⟨w.heap.size, 2, none⟩ (.int .i64 z)) w.heap.size (.cells #[.int .i64 x, .int .i64 y, .int .i64 z] 29) := by
    unfold Blk at D3 ⊢
    simp [World.setCell, Array.getElem?_modify, D3]
  obtain ⟨e0, e1, e2⟩ := r1.three
  clear D3 O3 O4 gs r1 E3
  go_wp2
  refine bodyPost_ret (v := .tuple #[.slice (some ⟨g, 0, none⟩) X.length c, .agg #[.int .i64 x, .int .i64 y, .int .i64 z]]) ?_ rfl ⟨X, g, c, x, y, z, rfl, hX, A4.out, hcap, ((B3.out.setCell (by dsimp only; omega) _).setCell (by dsimp only; omega) _).setCell (by dsimp only; omega) _⟩
  simp [results, Try.results9, go_sem, e0, e1, e2]
end Go.Proofs.Ythlejmofhcgkdaa
