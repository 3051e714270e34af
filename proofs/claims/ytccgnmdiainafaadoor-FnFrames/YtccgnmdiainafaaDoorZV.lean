/- The program's table reads afterwards as before. -/
import Derived.Test.YtccgnmdiainafaaDoorGS
import Derived.ChangeVars
import Derived.ChangeOld
import Derived.Carry
namespace Go.Proofs.YtccgnmdiainafaaDoor
open Go.ChangeShapes Go.WideShapes Go.ChangeAt Go.RowKit Go.Deep Go.Joins

theorem crc_g : Tryd.prog.globalNamed "loop.example/g00272/impl.crcTurns" = some 0 := by kernel_rfl
theorem crc_gt : (Tryd.prog.globals[0]?).map (·.type) = some 47 := by kernel_rfl
theorem vars_kept {H : Type} {enc : TypeId × Value → H} {W W' : World} {gs : List (DataW H)} {q : List MemPlace} (hV : DataW.TrodVars enc Tryd.prog W (fun _ => true) ["loop.example/g00272/impl.crcTurns"] gs q) (bel : Below W.heap.size W W') :
    ∃ d pv, gs = [d] ∧ DataW.TrodVars enc Tryd.prog W' (fun b => decide (b < W.heap.size)) ["loop.example/g00272/impl.crcTurns"] [d] pv := by
  have hlt := DataW.TrodVars.lt hV
  obtain ⟨g, t, cs, fuel, d, p, rfl, hg, ht, hvar, hd, rfl⟩ := trodVars_one hV
  obtain rfl := Option.some.inj (crc_g.symm.trans hg)
  obtain rfl := Option.some.inj (crc_gt.symm.trans ht)
  have h0 : 0 < W.heap.size := by
    by_cases e : 0 < W.heap.size
    · exact e
    · simp only [World.var?, hg, Option.bind_some] at hvar
      rw [Array.getElem?_eq_none (by omega)] at hvar
      cases hvar
  have hvar' : W'.var? Tryd.prog "loop.example/g00272/impl.crcTurns" = some cs := by
    unfold World.var? at hvar ⊢
    simp only [hg, Option.bind_some] at hvar ⊢
    rw [bel.block 0 h0]
    exact hvar
  obtain ⟨fuel', hd'⟩ := Below.trod Tryd.laidOut (by kernel_rfl) (of_decide_eq_true (by kernel_rfl)) (v := .agg cs) (⟨fuel, by simpa [Value.cells] using hd⟩ : DataW.Trod enc Tryd.prog W 0 (fun _ => true) true 47 (.agg cs) d p) bel (fun x hx => hlt x (List.mem_append_right _ hx))
  exact ⟨d, _, rfl, trodVars_mk1 (enc := enc) (spare := fun b => decide (b < W.heap.size)) hg ht hvar' (by simpa [Value.cells] using hd')⟩
end Go.Proofs.YtccgnmdiainafaaDoor
