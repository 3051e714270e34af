/- FnExactReadLabel: the walk: the law answers true at every text. -/
import Derived.Test.YtnejmfoleeablaaLI
import Derived.Test.YtnejmfoleeablaaWH
namespace Go.Proofs.Ytnejmfoleeablaa
open Go.RowKit Go.Deep Go.Maps

theorem RowAt.lt {w : World} {a : Option Addr} {b n : Nat} (h : RowAt w a b n) (h0 : 0 < n) : b < w.heap.size := by
  obtain ⟨_, m, F, _, hr⟩ := h h0
  exact hr.lt

theorem readL_len (L : List UInt8) : (readL L).2.1.length ≤ 12 := by
  unfold readL
  split
  · unfold fin
    split
    · split
      · rename_i h
        exact (labOk_out h).2.1
      · simp
    · simp
  · simp

set_option maxRecDepth 100000 in
set_option maxHeartbeats 4000000 in
theorem exactReadLabel_walk (s : ByteArray) (w : World) (hs : s.size ≤ maxLen) :
    Calls Try.prog 3 #[.string s] w fun e w' => e = .returned (.bool true) ∧ Below w.heap.size w w' := by
  unfold maxLen at hs
  by_cases hbig : 1048576 < s.size
  · have hbig' : (1048576 : Int) < (s.size : Int) := by omega
    go_enter Try.func3, Try.ntmps3
    go_wp2
    go_ret
    exact ⟨rfl, Below.refl _ _⟩
  have hbig' : ¬ (1048576 : Int) < (s.size : Int) := by omega
  have hn : s.size ≤ 1048576 := by omega
  have hlen := readL_len s.data.toList
  have IR : Hid (∀ v : World, Calls Try.prog 5 #[.string s] v (RPost (readL s.data.toList) v)) := fun v => implRead_any s v hn
  have SR : Hid (∀ v : World, Calls Try.prog 4 #[.string s] v (RPost (readL s.data.toList) v)) := fun v => specRead_any s v hn
  generalize readL s.data.toList = r at *
  obtain ⟨lb, l, ok⟩ := r
  simp only at hlen
  have hl : l.length ≤ maxLen := by unfold maxLen; omega
  have hl' : l.length ≤ 1048576 := by omega
  go_enter Try.func3, Try.ntmps3
  go_wp2_with fail
  refine (SR.out w).mono ?_
  rintro e w1 ⟨pa, pk, rfl, po, hb1⟩
  simp only at po
  have pc : CatsAt w1 pa l.length (fstAt l) (sndAt l) := OwnCats.cats po
  have P := Blk.new w1 (.cells #[.int .i64 lb, .slice pa l.length pk] 24)
  have PC := pc.below ((Below.refl _ w1).alloc (Nat.le_refl _) (.cells #[.int .i64 lb, .slice pa l.length pk] 24))
  have L : Below w.heap.size w (w1.alloc (.cells #[.int .i64 lb, .slice pa l.length pk] 24)) := hb1.alloc hb1.size _
  clear SR po pc hb1
  go_wp2_with fail
  generalize w1.alloc (.cells #[.int .i64 lb, .slice pa l.length pk] 24) = V at *
  refine (IR.out V).mono ?_
  rintro e w5 ⟨qa, qk, rfl, qo, hb5⟩
  simp only at qo
  obtain ⟨bg, RG, gbg⟩ := RowAt.of_own qo
  have qc : CatsAt w5 qa l.length (fstAt l) (sndAt l) := OwnCats.cats qo
  have G := Blk.new w5 (.cells #[.int .i64 lb, .slice qa l.length qk] 24)
  have K5 := (Below.refl _ w5).alloc (Nat.le_refl _) (.cells #[.int .i64 lb, .slice qa l.length qk] 24)
  have lbg : 0 < l.length → bg < w5.heap.size := fun h => RG.lt h
  have RG5 := RG.below K5
  have GC5 := qc.below K5
  have T5 : Below V.heap.size V (w5.alloc (.cells #[.int .i64 lb, .slice qa l.length qk] 24)) := hb5.trans (K5.mono hb5.size)
  have P5 := P.below T5
  clear RG qc K5 hb5 qo
  obtain ⟨x1, x2⟩ := G.two
  obtain ⟨x3, x4⟩ := P5.two
  go_wp2_with fail
  refine (eqLabel_true _ _ _ _ _ _ (fstAt l) (sndAt l) _ hl GC5 (PC.below T5)).mono ?_
  rintro e w10 ⟨rfl, hb10⟩
  have T10 : Below V.heap.size V w10 := T5.trans (hb10.mono T5.size)
  have G10 := G.below hb10
  have RG10 := RG5.below hb10
  clear x1 x2 x3 x4 RG5 GC5 P5 T5 hb10
  obtain ⟨x1, x2⟩ := G10.two
  go_wp2_with fail
  refine (markLabel_any _ _ bg _ _ _ _ hl' (by omega) (by omega) RG10).mono ?_
  rintro e w11 ⟨rfl, hg11, MC11⟩
  have hrow11 : ∀ j, (if 0 < l.length then some bg else none) = some j → j = bg ∧ 0 < l.length := fun j e => by split at e <;> simp_all
  have T11 : Below V.heap.size V w11 := T10.grown hg11 T10.size (fun j e => by have h := hrow11 j e; have := gbg h.2; omega)
  have G11 := G10.grown hg11 (fun e => by have h := hrow11 _ e.symm; have := lbg h.2; omega)
  clear hrow11 hg11 G10 RG10 T10 x1 x2
  obtain ⟨x1, x2⟩ := G11.two
  go_wp2_with fail
  refine (heldLabel_any _ _ _ _ _ _ hl' (by omega) (by omega) MC11).mono ?_
  rintro e w12 ⟨rfl, hb12⟩
  have T12 : Below V.heap.size V w12 := T11.trans (hb12.mono T11.size)
  have G12 := G11.below hb12
  have MC12 := MC11.below hb12
  have k12 : ¬ (1 + 2 * (l.length : Int) < 0) := by omega
  clear x1 x2 T11 G11 MC11 hb12
  go_wp2_with fail
  refine (IR.out _).mono ?_
  rintro e w14 ⟨ra, rk, rfl, ro, hb14⟩
  simp only at ro
  have rc : CatsAt w14 ra l.length (fstAt l) (sndAt l) := OwnCats.cats ro
  have H := Blk.new w14 (.cells #[.int .i64 lb, .slice ra l.length rk] 24)
  have K14 := (Below.refl _ w14).alloc (Nat.le_refl _) (.cells #[.int .i64 lb, .slice ra l.length rk] 24)
  have T14 : Below V.heap.size V (w14.alloc (.cells #[.int .i64 lb, .slice ra l.length rk] 24)) := (T12.trans (hb14.mono T12.size)).alloc (Nat.le_trans T12.size hb14.size) _
  have G14 := (G12.below hb14).below K14
  have MC14 := (MC12.below hb14).below K14
  have rc14 := rc.below K14
  have P14 := P.below T14
  clear T12 G12 MC12 hb14 ro rc K14
  obtain ⟨x1, x2⟩ := H.two
  obtain ⟨x3, x4⟩ := P14.two
  go_wp2_with fail
  refine (eqLabel_true _ _ _ _ _ _ (fstAt l) (sndAt l) _ hl rc14 (PC.below T14)).mono ?_
  rintro e w15 ⟨rfl, hb15⟩
  have T15 : Below V.heap.size V w15 := T14.trans (hb15.mono T14.size)
  have G15 := G14.below hb15
  have MC15 := MC14.below hb15
  clear x1 x2 x3 x4 T14 G14 MC14 P14 H rc14 hb15
  obtain ⟨x1, x2⟩ := G15.two
  go_wp2_with fail
  refine (heldLabel_any _ _ _ _ _ _ hl' (by omega) (by omega) MC15).mono ?_
  rintro e w16 ⟨rfl, hb16⟩
  have L16 : Below w.heap.size w w16 := (L.trans (T15.mono L.size)).trans (hb16.mono (Nat.le_trans L.size T15.size))
  clear x1 x2 T15 G15 MC15 hb16
  go_wp2
  go_ret
  exact ⟨rfl, L16⟩
end Go.Proofs.Ytnejmfoleeablaa
