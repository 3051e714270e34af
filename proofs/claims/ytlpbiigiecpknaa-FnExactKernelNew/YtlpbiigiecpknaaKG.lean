/- FnExactKernelNew: the walk: the law answers true at every number. -/
import Derived.Test.YtlpbiigiecpknaaKF
namespace Go.Proofs.Ytlpbiigiecpknaa
open Go.RowKit Go.Deep Go.Maps

theorem newN_le (t : Int) : newN t ≤ 9 := by unfold newN; split <;> omega
theorem newC_le (t : Int) : newC t ≤ 1 := by unfold newC; split <;> omega

theorem Marked2.step {nl b1 nc b2 : Nat} {w w' : World} (h : Marked2 nl b1 nc b2 w w') : ∃ w1 r1 r2, w.grownBy w1 r1 ∧ w1.grownBy w' r2 ∧ (∀ j, r1 = some j → j = b1) ∧ (∀ j, r2 = some j → j = b2) := by
  obtain ⟨w1, h1, h2⟩ := h
  exact ⟨w1, _, _, h1, h2, fun j e => by split at e <;> simp_all, fun j e => by split at e <;> simp_all⟩

set_option maxRecDepth 100000 in
set_option maxHeartbeats 4000000 in
theorem exactKernelNew_walk (t : Int) (w : World) :
    Calls Try.prog 3 #[.int .i64 t] w fun e w' => e = .returned (.bool true) ∧ Below w.heap.size w w' := by
  have hn := newN_le t
  have hc := newC_le t
  have IR : Hid (∀ v : World, Calls Try.prog 7 #[.int .i64 t] v (KPost t v)) := fun v => implNew_any t v
  have SR : Hid (∀ v : World, Calls Try.prog 6 #[.int .i64 t] v (KPost t v)) := fun v => specNew_any t v
  unfold KPost at IR SR
  generalize newN t = n at *
  generalize newC t = c at *
  generalize newB t = ok at *
  go_enter Try.func3, Try.ntmps3
  go_wp2_with fail
  refine (SR.out w).mono ?_
  rintro e w1 ⟨pta, ptb, ptk, poa, pob, pck, rfl, pT, pO, _, _, _, hb1⟩
  have P := Blk.new w1 (.cells #[.slice pta n ptk, .slice poa c pck] 25)
  have K1 := (Below.refl _ w1).alloc (Nat.le_refl _) (.cells #[.slice pta n ptk, .slice poa c pck] 25)
  have PT := pT.below K1
  have PO := pO.below K1
  have L : Below w.heap.size w (w1.alloc (.cells #[.slice pta n ptk, .slice poa c pck] 25)) := hb1.alloc hb1.size _
  clear SR pT pO hb1 K1
  go_wp2_with fail
  generalize w1.alloc (.cells #[.slice pta n ptk, .slice poa c pck] 25) = V at *
  refine (IR.out V).mono ?_
  rintro e w5 ⟨gta, gtb, gtk, goa, gob, gck, rfl, gT, gO, l1, l2, hne, hb5⟩
  have G := Blk.new w5 (.cells #[.slice gta n gtk, .slice goa c gck] 25)
  have K5 := (Below.refl _ w5).alloc (Nat.le_refl _) (.cells #[.slice gta n gtk, .slice goa c gck] 25)
  have tl : 0 < n → gtb < w5.heap.size := fun h => gT.lt h
  have ol : 0 < c → gob < w5.heap.size := fun h => (gO h).2.lt
  have GT := gT.below K5
  have GO := gO.below K5
  have T5 : Below V.heap.size V (w5.alloc (.cells #[.slice gta n gtk, .slice goa c gck] 25)) := hb5.trans (K5.mono hb5.size)
  have P5 := P.below T5
  clear gT gO K5 hb5
  obtain ⟨x1, x2⟩ := G.two
  obtain ⟨x3, x4⟩ := P5.two
  go_wp2_with fail
  refine (eqKernel_true _ _ gtb ptb _ _ _ _ _ gob pob _ _ _ newF 1 3 0 1 ⟨#[]⟩ 0 _ hn hc GT (PT.below T5) GO (PO.below T5)).mono ?_
  rintro e w10 ⟨rfl, hb10⟩
  have T10 : Below V.heap.size V w10 := T5.trans (hb10.mono T5.size)
  have G10 := G.below hb10
  have GT10 := GT.below hb10
  have GO10 := GO.below hb10
  have s10 : w5.heap.size < w10.heap.size := G10.lt
  clear x1 x2 x3 x4 GT GO P5 T5 hb10 G
  obtain ⟨x1, x2⟩ := G10.two
  go_wp2_with fail
  refine (markKernel_any _ gtb _ _ _ gob _ _ newF 1 3 0 1 ⟨#[]⟩ 0 _ _ hn hc (by omega) (by omega) GT10 GO10 hne).mono ?_
  rintro e w11 ⟨rfl, hM, KM⟩
  have GG : Blk w11 w5.heap.size (.cells #[.slice gta n gtk, .slice goa c gck] 25) := by
    obtain ⟨wm, h1, h2⟩ := hM
    refine (G10.grown h1 (fun e => ?_)).grown h2 (fun e => ?_)
    · split at e
      · rename_i hp; have := tl hp; simp at e; omega
      · simp at e
    · split at e
      · rename_i hp; have := ol hp; simp at e; omega
      · simp at e
  obtain ⟨wm, row1, row2, h1, h2, hr1, hr2⟩ := hM.step
  have T11 : Below V.heap.size V w11 := (T10.grown h1 T10.size (fun j e => by rw [hr1 j e]; exact l1)).grown h2 (Nat.le_trans T10.size h1.size) (fun j e => by rw [hr2 j e]; exact l2)
  clear hM h1 h2 hr1 hr2 G10 GT10 GO10 T10 x1 x2
  obtain ⟨x1, x2⟩ := GG.two
  go_wp2_with fail
  refine (heldKernel_any _ gtb _ _ _ gob _ _ _ _ hn hc (by omega) (by omega) KM).mono ?_
  rintro e w12 ⟨rfl, hb12⟩
  have T12 : Below V.heap.size V w12 := T11.trans (hb12.mono T11.size)
  have G12 := GG.below hb12
  have KM12 := KM.below hb12
  have k12 : ¬ (1 + 4 * (n : Int) + 6 * (c : Int) < 0) := by omega
  clear x1 x2 T11 GG KM hb12
  go_wp2_with fail
  refine (IR.out _).mono ?_
  rintro e w14 ⟨hta, htb, htk, hoa, hob, hck, rfl, hT, hO, _, _, _, hb14⟩
  have H := Blk.new w14 (.cells #[.slice hta n htk, .slice hoa c hck] 25)
  have K14 := (Below.refl _ w14).alloc (Nat.le_refl _) (.cells #[.slice hta n htk, .slice hoa c hck] 25)
  have T14 : Below V.heap.size V (w14.alloc (.cells #[.slice hta n htk, .slice hoa c hck] 25)) := (T12.trans (hb14.mono T12.size)).alloc (Nat.le_trans T12.size hb14.size) _
  have G14 := (G12.below hb14).below K14
  have KM14 := (KM12.below hb14).below K14
  have HT := hT.below K14
  have HO := hO.below K14
  have P14 := P.below T14
  clear T12 G12 KM12 hb14 hT hO K14
  obtain ⟨x1, x2⟩ := H.two
  obtain ⟨x3, x4⟩ := P14.two
  go_wp2_with fail
  refine (eqKernel_true _ _ htb ptb _ _ _ _ _ hob pob _ _ _ newF 1 3 0 1 ⟨#[]⟩ 0 _ hn hc HT (PT.below T14) HO (PO.below T14)).mono ?_
  rintro e w15 ⟨rfl, hb15⟩
  have T15 : Below V.heap.size V w15 := T14.trans (hb15.mono T14.size)
  have G15 := G14.below hb15
  have KM15 := KM14.below hb15
  clear x1 x2 x3 x4 T14 G14 KM14 P14 H HT HO hb15
  obtain ⟨x1, x2⟩ := G15.two
  go_wp2_with fail
  refine (heldKernel_any _ gtb _ _ _ gob _ _ _ _ hn hc (by omega) (by omega) KM15).mono ?_
  rintro e w16 ⟨rfl, hb16⟩
  have L16 : Below w.heap.size w w16 := (L.trans (T15.mono L.size)).trans (hb16.mono (Nat.le_trans L.size T15.size))
  clear x1 x2 T15 G15 KM15 hb16
  go_wp2
  go_ret
  exact ⟨rfl, L16⟩
end Go.Proofs.Ytlpbiigiecpknaa
