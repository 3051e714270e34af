/- How a step that came in is opened: the numbers and the text that lie there. -/
import Derived.Test.YtcpphobokdkkeaaDoorG
namespace Go.Proofs.YtcpphobokdkkeaaDoor
open Go.ChangeShapes Go.WideShapes Go.ChangeAt Go.RowKit Go.Deep Go.Joins

theorem Tryd.cells26 : Tryd.prog.cellsOf 26 = 10 := by kernel_rfl
theorem Tryd.cells9 : Tryd.prog.cellsOf 9 = 1 := by kernel_rfl

theorem label_cells {H : Type} {enc : TypeId × Value → H} {W : World} {fuel : Nat} {v0 v1 : Value} {x : DataW H × List MemPlace}
    (h : DataW.trod enc Tryd.prog W 0 (fun _ => true) true fuel 24 [v0, v1] = some x) :
    ∃ (base : Int) (a : Option Addr) (n cap : Nat) (f g : Nat → Int), v0 = .int .i64 base ∧ v1 = .slice a n cap ∧ n ≤ maxLen ∧ CatsAt W a n f g := by
  obtain ⟨xs, k, hk, _, _, hxl, hf⟩ := DataW.trod_struct Tryd.underlying24 h
  match xs, hxl with
  | [y0, y1], _ =>
    have g0 := hf 0 _ rfl
    have g1 := hf 1 _ rfl
    simp [Tryd.cells2, Tryd.cells22] at g0 g1
    obtain ⟨base, e0, _, _⟩ := DataW.trod_int Tryd.underlying2 g0
    obtain ⟨a, n, cap, f, g, rfl, hn, hc, _⟩ := open_cats g1
    simp only [List.cons.injEq, and_true] at e0
    exact ⟨base, a, n, cap, f, g, e0, rfl, hn, hc⟩

set_option maxRecDepth 100000 in
/-- A step as it came in. -/
theorem open_step {H : Type} {enc : TypeId × Value → H} {W : World} {r : Reach} {b0 : Nat} {v : Value} {d : DataW H} {p : List MemPlace}
    (hv : Value.okWide Tryd.prog W r b0 26 v) (h : DataW.Trod enc Tryd.prog W 0 (fun _ => true) true 26 v d p) :
    ∃ (th kind id to' cat : Int) (t : ByteArray) (bl : Int) (al : Option Addr) (nl kl : Nat) (fl gl : Nat → Int) (bc : Int) (ac : Option Addr) (nc kc : Nat) (fc gc : Nat → Int),
      v = .agg #[.int .i64 th, .int .i64 kind, .int .i64 id, .int .i64 to', .int .i64 cat, .string t, .int .i64 bl, .slice al nl kl, .int .i64 bc, .slice ac nc kc] ∧ t.size ≤ maxLen ∧ nl ≤ maxLen ∧ nc ≤ maxLen ∧ CatsAt W al nl fl gl ∧ CatsAt W ac nc fc gc := by
  obtain ⟨cs, rfl, hsz⟩ := okWide_struct Tryd.underlying26 hv
  rw [Tryd.cells26] at hsz
  obtain ⟨fuel, hf0⟩ := h
  obtain ⟨xs, k, hk, _, _, hxl, hf⟩ := DataW.trod_struct Tryd.underlying26 hf0
  obtain ⟨l⟩ := cs
  match l, hsz with
  | [c0, c1, c2, c3, c4, c5, c6, c7, c8, c9], _ =>
    match xs, hxl with
    | [y0, y1, y2, y3, y4, y5, y6, y7], _ =>
      have g0 := hf 0 _ rfl
      have g1 := hf 1 _ rfl
      have g2 := hf 2 _ rfl
      have g3 := hf 3 _ rfl
      have g4 := hf 4 _ rfl
      have g5 := hf 5 _ rfl
      have g6 := hf 6 _ rfl
      have g7 := hf 7 _ rfl
      simp [Value.cells, Tryd.cells2, Tryd.cells24, Tryd.cells9] at g0 g1 g2 g3 g4 g5 g6 g7
      obtain ⟨th, e0, _, _⟩ := DataW.trod_int Tryd.underlying2 g0
      obtain ⟨kind, e1, _, _⟩ := DataW.trod_int Tryd.underlying2 g1
      obtain ⟨id, e2, _, _⟩ := DataW.trod_int Tryd.underlying2 g2
      obtain ⟨to', e3, _, _⟩ := DataW.trod_int Tryd.underlying2 g3
      obtain ⟨cat, e4, _, _⟩ := DataW.trod_int Tryd.underlying2 g4
      obtain ⟨t, e5, _, ht⟩ := DataW.trod_string Tryd.underlying9 g5
      obtain ⟨b1, a1, n1, k1, f1, h1, rfl, rfl, hn1, hc1⟩ := label_cells g6
      obtain ⟨b2, a2, n2, k2, f2, h2, rfl, rfl, hn2, hc2⟩ := label_cells g7
      simp only [List.cons.injEq, and_true] at e0 e1 e2 e3 e4 e5
      subst e0 e1 e2 e3 e4 e5
      exact ⟨th, kind, id, to', cat, t, b1, a1, n1, k1, f1, h1, b2, a2, n2, k2, f2, h2, rfl, ht, hn1, hn2, hc1, hc2⟩
end Go.Proofs.YtcpphobokdkkeaaDoor
