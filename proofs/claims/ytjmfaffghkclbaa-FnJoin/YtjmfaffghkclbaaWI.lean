/- FnExactWith: the walk: the law answers true at every label, category and level that came in, and writes nothing that was there. -/
import Derived.Test.YtjmfaffghkclbaaWH
namespace Go.Proofs.Ytjmfaffghkclbaa
open Go.RowKit Go.Deep Go.Maps

theorem RowAt.lt {w : World} {a : Option Addr} {b n : Nat} (h : RowAt w a b n) (h0 : 0 < n) : b < w.heap.size := by
  obtain ⟨_, m, F, _, hr⟩ := h h0
  exact hr.lt

theorem CatsAt.grown {w w' : World} {a : Option Addr} {b n : Nat} {f g : Nat → Int} {row : Option Nat} (h : CatsAt w a n f g) (hr : RowAt w a b n) (hg : w.grownBy w' row) (hne : 0 < n → some b ≠ row) : CatsAt w' a n f g := fun h0 => by
  obtain ⟨b', off, e', hlt, hc⟩ := h h0
  obtain ⟨e, _⟩ := hr h0
  rw [e] at e'
  simp only [Option.some.injEq, Addr.mk.injEq] at e'
  obtain ⟨rfl, rfl, _⟩ := e'
  refine ⟨b, 0, e, Nat.lt_of_lt_of_le hlt hg.size, fun i hi => ?_⟩
  have hb := hg.block b hlt (hne h0)
  have hk : ∀ o, w'.cell? ⟨b, o, none⟩ = w.cell? ⟨b, o, none⟩ := fun o => by simp [World.cell?, hb]
  rw [hk, hk]
  exact hc i hi

theorem withList_len (base : Int) (n : Nat) (f g : Nat → Int) (cat level : Int) : (withList base n f g cat level).length ≤ 12 := by
  unfold withList
  split
  · rename_i h
    simp only [withOk, Bool.and_eq_true, decide_eq_true_eq] at h
    exact h.2
  · simp

set_option maxRecDepth 100000 in
set_option maxHeartbeats 4000000 in
theorem exactWith_walk (ba : Int) (aa : Option Addr) (na ka : Nat) (fa ga : Nat → Int) (cat level : Int) (w : World)
    (hna : na ≤ maxLen) (hca : CatsAt w aa na fa ga) :
    Calls Try.prog 10 #[.agg #[.int .i64 ba, .slice aa na ka], .int .i64 cat, .int .i64 level] w fun e w' => e = .returned (.bool true) ∧ Below w.heap.size w w' := by
  have hb0 := (Below.refl _ w).alloc (Nat.le_refl _) (.cells #[.int .i64 ba, .slice aa na ka] 49)
  have A0 := Blk.new w (.cells #[.int .i64 ba, .slice aa na ka] 49)
  have hlen := withList_len ba na fa ga cat level
  go_enter Try.func10, Try.ntmps10
  go_wp2_with fail
  refine (szLabel_any _ _ _ _ _ _ hna (by omega) (by omega)).mono ?_
  rintro e w1 ⟨rfl, hb1⟩
  have A1 := A0.below hb1
  have L1 : Below w.heap.size w w1 := hb0.trans (hb1.mono (by simp))
  clear hb0 A0 hb1
  obtain ⟨x1, x2⟩ := A1.two
  have s1 := szOf_cases na 1048576 (by omega) (by omega)
  generalize szOf na 1048576 = r1 at *
  rcases s1 with rfl | ⟨u1, v1, m1⟩
  · go_wp2
    go_ret
    exact ⟨rfl, L1⟩
  · go_wp2_with fail
    refine (toLabel_any _ _ _ _ fa ga _ m1 (hca.below L1)).mono ?_
    rintro e w2 ⟨d0, rfl, _, c0, hb2⟩
    have A2 := A1.below hb2
    have L2 : Below w.heap.size w w2 := L1.trans (hb2.mono L1.size)
    clear x1 x2 A1 L1 hb2
    go_wp2_with fail
    refine (specWith_any _ _ _ _ fa ga _ _ _ hna (CatsAt.row c0)).mono ?_
    rintro e w3 ⟨pa, pk, rfl, po, hb3⟩
    have pc : CatsAt w3 pa (withList ba na fa ga cat level).length (fstAt (withList ba na fa ga cat level)) (sndAt (withList ba na fa ga cat level)) := OwnCats.cats po
    have A3 := A2.below hb3
    have L3 : Below w.heap.size w w3 := L2.trans (hb3.mono L2.size)
    have IW : Hid (∀ (a : Option Addr) (k : Nat) (v : World), CatsAt v a na fa ga → Calls Try.prog 22 #[.agg #[.int .i64 ba, .slice a na k], .int .i64 cat, .int .i64 level] v fun e w' => WithPost ba na fa ga cat level v e w') := fun a k v h => implWith_any _ _ _ _ _ _ _ _ _ hna h
    unfold WithPost at IW
    generalize withList ba na fa ga cat level = l at *
    generalize withBase ba na fa ga cat level = lb at *
    generalize withOk ba na fa ga cat level = ok at *
    have hl : l.length ≤ maxLen := by unfold maxLen; omega
    have A := A3.alloc (.cells #[.int .i64 lb, .slice pa l.length pk] 26)
    have P := Blk.new w3 (.cells #[.int .i64 lb, .slice pa l.length pk] 26)
    have PC := pc.below ((Below.refl _ w3).alloc (Nat.le_refl _) (.cells #[.int .i64 lb, .slice pa l.length pk] 26))
    have L : Below w.heap.size w (w3.alloc (.cells #[.int .i64 lb, .slice pa l.length pk] 26)) := L3.alloc L3.size _
    have C := hca.below L
    have sP : w3.heap.size + 1 = (w3.alloc (.cells #[.int .i64 lb, .slice pa l.length pk] 26)).heap.size := by simp
    have V1e : ∃ V, V = w3.alloc (.cells #[.int .i64 lb, .slice pa l.length pk] 26) := ⟨_, rfl⟩
    obtain ⟨V, eV⟩ := V1e
    rw [← eV] at A P PC L C sP
    clear A2 A3 c0 hb3 L2 L3 po pc
    obtain ⟨x1, x2⟩ := A.two
    rw [eV] at x1 x2
    go_wp2_with fail
    rw [← eV]
    refine (toLabel_any _ _ _ _ fa ga _ m1 C).mono ?_
    rintro e w4 ⟨d1, rfl, gd1, c1, hb4⟩
    have X := Blk.new w4 (.cells #[.int .i64 ba, .slice (some ⟨d1, 0, none⟩) na na] 26)
    have T4 : Below V.heap.size V (w4.alloc (.cells #[.int .i64 ba, .slice (some ⟨d1, 0, none⟩) na na] 26)) := hb4.alloc hb4.size _
    have K4 := (Below.refl _ w4).alloc (Nat.le_refl _) (.cells #[.int .i64 ba, .slice (some ⟨d1, 0, none⟩) na na] 26)
    have ld1 : d1 < w4.heap.size := c1.lt
    have RX := (RowAt.of_row c1).below K4
    have XC := (CatsAt.row c1).below K4
    have sX : w4.heap.size + 1 = (w4.alloc (.cells #[.int .i64 ba, .slice (some ⟨d1, 0, none⟩) na na] 26)).heap.size := by simp
    clear x1 x2 hb4 c1 K4
    obtain ⟨x3, x4⟩ := X.two
    go_wp2_with fail
    refine (IW.out _ _ _ XC).mono ?_
    rintro e w5 ⟨qa, qk, rfl, qo, hb5⟩
    obtain ⟨bg, RG, gbg⟩ := RowAt.of_own qo
    have qc : CatsAt w5 qa l.length (fstAt l) (sndAt l) := OwnCats.cats qo
    have G := Blk.new w5 (.cells #[.int .i64 lb, .slice qa l.length qk] 26)
    have K5 := (Below.refl _ w5).alloc (Nat.le_refl _) (.cells #[.int .i64 lb, .slice qa l.length qk] 26)
    have lbg : 0 < l.length → bg < w5.heap.size := fun h => RG.lt h
    have X5 := (X.below hb5).below K5
    have RX5 := (RX.below hb5).below K5
    have XC5 := (XC.below hb5).below K5
    have RG5 := RG.below K5
    have GC5 := qc.below K5
    have T5 : Below V.heap.size V (w5.alloc (.cells #[.int .i64 lb, .slice qa l.length qk] 26)) := (T4.trans (hb5.mono T4.size)).trans (K5.mono (Nat.le_trans T4.size hb5.size))
    have P5 := P.below T5
    have s5 : w4.heap.size + 1 ≤ w5.heap.size := by rw [sX]; exact hb5.size
    rw [← sX] at gbg
    clear x3 x4 X RX XC RG qc K5 T4 hb5 qo sX
    obtain ⟨x1, x2⟩ := G.two
    obtain ⟨x3, x4⟩ := P5.two
    go_wp2_with fail
    refine (eqLabel_true _ _ _ _ _ _ (fstAt l) (sndAt l) _ hl GC5 (PC.below T5)).mono ?_
    rintro e w6 ⟨rfl, hb6⟩
    have T6 : Below V.heap.size V w6.drew := (T5.trans (hb6.mono T5.size)).drew
    have X6 : Blk w6.drew w4.heap.size (.cells #[.int .i64 ba, .slice (some ⟨d1, 0, none⟩) na na] 26) := X5.below hb6.drew
    have RX6 : RowAt w6.drew (some ⟨d1, 0, none⟩) d1 na := RX5.below hb6.drew
    have XC6 : CatsAt w6.drew (some ⟨d1, 0, none⟩) na fa ga := XC5.below hb6.drew
    have G6 : Blk w6.drew w5.heap.size (.cells #[.int .i64 lb, .slice qa l.length qk] 26) := G.below hb6.drew
    have RG6 : RowAt w6.drew qa bg l.length := RG5.below hb6.drew
    have GC6 : CatsAt w6.drew qa l.length (fstAt l) (sndAt l) := GC5.below hb6.drew
    have A6 : Blk w6.drew w.heap.size (.cells #[.int .i64 ba, .slice aa na ka] 49) := A.below T6
    have C6 := C.below T6
    clear x1 x2 x3 x4 X5 RX5 XC5 G RG5 GC5 T5 P5 hb6
    obtain ⟨z1, z2⟩ : w6.cell? ⟨w.heap.size, 0, none⟩ = _ ∧ w6.cell? ⟨w.heap.size, 1, none⟩ = _ := A6.two
    obtain ⟨z5, z6⟩ : w6.cell? ⟨w4.heap.size, 0, none⟩ = _ ∧ w6.cell? ⟨w4.heap.size, 1, none⟩ = _ := X6.two
    go_wp2_with fail
    go_region_held3 (fun w' => w'.cell? ⟨w.heap.size, 0, none⟩ = some (.int .i64 ba) ∧ w'.cell? ⟨w.heap.size, 1, none⟩ = some (.slice aa na ka) ∧ w'.cell? ⟨w4.heap.size, 0, none⟩ = some (.int .i64 ba) ∧ w'.cell? ⟨w4.heap.size, 1, none⟩ = some (.slice (some ⟨d1, 0, none⟩) na na)) (go_keep)
      (first
        | (go_at_call 48; refine (toLabel_any _ _ _ _ fa ga _ m1 C6).mono ?_; rintro e w7 ⟨d3, rfl, _, c3, hb7⟩; obtain ⟨y1, y2⟩ := (A6.below hb7).two; obtain ⟨y3, y4⟩ := (X6.below hb7).two)
        | (go_at_call 49; refine (eqLabel_true _ _ _ _ _ _ fa ga _ hna (XC6.below hb7) (CatsAt.row c3)).mono ?_; rintro e w8 ⟨rfl, hb8⟩; obtain ⟨t1, t2⟩ := ((A6.below hb7).below hb8).two; obtain ⟨t3, t4⟩ := ((X6.below hb7).below hb8).two))
    have T8 : Below V.heap.size V w8 := (T6.trans (hb7.mono T6.size)).trans (hb8.mono (Nat.le_trans T6.size hb7.size))
    have X8 := (X6.below hb7).below hb8
    have RX8 := (RX6.below hb7).below hb8
    have G8 := (G6.below hb7).below hb8
    have RG8 := (RG6.below hb7).below hb8
    have GC8 := (GC6.below hb7).below hb8
    clear z1 z2 z5 z6 y1 y2 y3 y4 t1 t2 t3 t4 hb7 hb8 c3 X6 RX6 XC6 G6 RG6 GC6 A6 C6 T6
    obtain ⟨x1, x2⟩ := X8.two
    go_wp2_with fail
    refine (markLabel_any _ _ d1 _ _ _ _ m1 (by omega) (by omega) RX8).mono ?_
    rintro e w9 ⟨rfl, hg9, _⟩
    have hrow9 : ∀ j, (if 0 < na then some d1 else none) = some j → j = d1 := fun j e => by split at e <;> simp_all
    have T9 : Below V.heap.size V w9 := T8.grown hg9 T8.size (fun j e => by rw [hrow9 j e]; exact gd1)
    have hne9 : ∀ j, j ≠ d1 → some j ≠ (if 0 < na then some d1 else none) := fun j hj e => hj (hrow9 j e.symm)
    have G9 := G8.grown hg9 (hne9 _ (by omega))
    have RG9 : RowAt w9 qa bg l.length := fun h0 => RG8.grown hg9 (hne9 _ (by have := gbg h0; omega)) h0
    have GC9 := GC8.grown RG8 hg9 (fun h0 => hne9 _ (by have := gbg h0; omega))
    have P9 := P.below T9
    have k9 : ¬ (1 + 2 * (na : Int) < 0) := by omega
    clear hrow9 hne9 hg9 G8 RG8 GC8 T8 X8 RX8 x1 x2
    obtain ⟨x1, x2⟩ := G9.two
    obtain ⟨x3, x4⟩ := P9.two
    go_wp2_with fail
    refine (eqLabel_true _ _ _ _ _ _ (fstAt l) (sndAt l) _ hl GC9 (PC.below T9)).mono ?_
    rintro e w10 ⟨rfl, hb10⟩
    have T10 : Below V.heap.size V w10 := T9.trans (hb10.mono T9.size)
    have G10 := G9.below hb10
    have RG10 := RG9.below hb10
    clear x1 x2 x3 x4 G9 RG9 GC9 P9 T9 hb10
    obtain ⟨x1, x2⟩ := G10.two
    have hl' : l.length ≤ 1048576 := by omega
    go_wp2_with fail
    refine (markLabel_any _ _ bg _ _ _ _ hl' (by omega) (by omega) RG10).mono ?_
    rintro e w11 ⟨rfl, hg11, MC11⟩
    have hrow11 : ∀ j, (if 0 < l.length then some bg else none) = some j → j = bg ∧ 0 < l.length := fun j e => by split at e <;> simp_all
    have T11 : Below V.heap.size V w11 := T10.grown hg11 T10.size (fun j e => by have h := hrow11 j e; have := gbg h.2; omega)
    have G11 := G10.grown hg11 (fun e => by have h := hrow11 _ e.symm; have := lbg h.2; omega)
    clear hrow11 hg11 G10 RG10 T10 x1 x2
    obtain ⟨x1, x2⟩ := G11.two
    go_wp2_with fail
    refine (heldLabel_any _ _ _ _ _ _ hl' (by omega) (by omega) MC11).mono ?_
    rintro e w12 ⟨rfl, hb12⟩
    have T12 : Below V.heap.size V w12 := T11.trans (hb12.mono T11.size)
    have G12 := G11.below hb12
    have MC12 := MC11.below hb12
    have A12 := A.below T12
    have k12 : ¬ (1 + 2 * (l.length : Int) < 0) := by omega
    clear x1 x2 T11 G11 MC11 hb12
    obtain ⟨x1, x2⟩ := A12.two
    go_wp2_with fail
    refine (toLabel_any _ _ _ _ fa ga _ m1 (C.below T12)).mono ?_
    rintro e w13 ⟨d5, rfl, _, c5, hb13⟩
    have T13 : Below V.heap.size V w13 := T12.trans (hb13.mono T12.size)
    have G13 := G12.below hb13
    have MC13 := MC12.below hb13
    clear x1 x2 A12 T12 G12 MC12 hb13
    go_wp2_with fail
    refine (IW.out _ _ _ (CatsAt.row c5)).mono ?_
    rintro e w14 ⟨ra, rk, rfl, ro, hb14⟩
    have rc : CatsAt w14 ra l.length (fstAt l) (sndAt l) := OwnCats.cats ro
    have H := Blk.new w14 (.cells #[.int .i64 lb, .slice ra l.length rk] 26)
    have K14 := (Below.refl _ w14).alloc (Nat.le_refl _) (.cells #[.int .i64 lb, .slice ra l.length rk] 26)
    have T14 : Below V.heap.size V (w14.alloc (.cells #[.int .i64 lb, .slice ra l.length rk] 26)) := (T13.trans (hb14.mono T13.size)).alloc (Nat.le_trans T13.size hb14.size) _
    have G14 := (G13.below hb14).below K14
    have MC14 := (MC13.below hb14).below K14
    have rc14 := rc.below K14
    have P14 := P.below T14
    clear T13 G13 MC13 c5 hb14 ro rc K14
    obtain ⟨x1, x2⟩ := H.two
    obtain ⟨x3, x4⟩ := P14.two
    go_wp2_with fail
    refine (eqLabel_true _ _ _ _ _ _ (fstAt l) (sndAt l) _ hl rc14 (PC.below T14)).mono ?_
    rintro e w15 ⟨rfl, hb15⟩
    have T15 : Below V.heap.size V w15 := T14.trans (hb15.mono T14.size)
    have G15 := G14.below hb15
    have MC15 := MC14.below hb15
    clear x1 x2 x3 x4 T14 G14 MC14 P14 H rc14 hb15
    obtain ⟨x1, x2⟩ := G15.two
    go_wp2_with fail
    refine (heldLabel_any _ _ _ _ _ _ hl' (by omega) (by omega) MC15).mono ?_
    rintro e w16 ⟨rfl, hb16⟩
    have L16 : Below w.heap.size w w16 := (L.trans (T15.mono L.size)).trans (hb16.mono (Nat.le_trans L.size T15.size))
    clear x1 x2 T15 G15 MC15 hb16
    go_wp2
    go_ret
    exact ⟨rfl, L16⟩
end Go.Proofs.Ytjmfaffghkclbaa
