/- How a thread that came in is opened: the numbers that lie there. -/
import Derived.Test.YtgkfcjcdfbmbjaaGreatG
import Derived.Test.YtgkfcjcdfbmbjaaGreatZA
namespace Go.Proofs.YtgkfcjcdfbmbjaaGreat
open Go.ChangeShapes Go.WideShapes Go.ChangeAt Go.RowKit Go.Deep Go.Joins

theorem Tryz.cells82 : Tryz.prog.cellsOf 82 = 7 := by kernel_rfl
theorem Tryz.cells31 : Tryz.prog.cellsOf 31 = 1 := by kernel_rfl

/-- A slice of whole numbers as it came in. -/
theorem open_nums {H : Type} {enc : TypeId × Value → H} {W : World} {fuel : Nat} {v : Value} {x : DataW H × List MemPlace}
    (h : DataW.trod enc Tryz.prog W 0 (fun _ => true) true fuel 31 [v] = some x) :
    ∃ (a : Option Addr) (n cap : Nat) (f : Nat → Int), v = .slice a n cap ∧ n ≤ maxLen ∧ IntsAt W a n f ∧ ∀ i, i < n → (Lit.int .i64 (f i)).wf = true := by
  rcases open_ints Tryz.underlying31 Tryz.underlying2 Tryz.cells2 h with ⟨hcs, _⟩ | ⟨a, len, cap, zs, hcs, _, hl, hm, hz, _, hcell, hwz⟩
  · simp only [List.cons.injEq, and_true] at hcs
    exact ⟨none, 0, 0, fun _ => 0, hcs, Nat.zero_le _, fun h0 => by omega, fun i hi => by omega⟩
  · simp only [List.cons.injEq, and_true] at hcs
    have hzl : zs.length = cap := by simpa using hz
    refine ⟨some a, len, cap, fun i => zs.getD i 0, hcs, Nat.le_trans hl hm, fun h0 => ?_, fun i hi => ?_⟩
    · obtain ⟨b, off, spot⟩ := a
      have c0 := hcell 0 (by omega)
      have hspot : spot = none := by simpa [Addr.add] using World.cell?_spot c0
      subst hspot
      have c0' : W.cell? ⟨b, off, none⟩ = some (.int .i64 (zs.getD 0 0)) := by simpa [Addr.add] using c0
      refine ⟨b, off, rfl, cell_lt c0', fun i hi => ?_⟩
      have t := hcell i (by omega)
      rw [add_plain] at t
      exact t
    · have hi' : i < zs.length := by omega
      refine hwz _ ?_
      simp only [List.getD_eq_getElem?_getD, List.getElem?_eq_getElem hi', Option.getD_some]
      exact List.getElem_mem hi'

theorem label_cells {H : Type} {enc : TypeId × Value → H} {W : World} {fuel : Nat} {v0 v1 : Value} {x : DataW H × List MemPlace}
    (h : DataW.trod enc Tryz.prog W 0 (fun _ => true) true fuel 28 [v0, v1] = some x) :
    ∃ (base : Int) (a : Option Addr) (n cap : Nat) (f g : Nat → Int), v0 = .int .i64 base ∧ v1 = .slice a n cap ∧ n ≤ maxLen ∧ CatsAt W a n f g := by
  obtain ⟨xs, k, hk, _, _, hxl, hf⟩ := DataW.trod_struct Tryz.underlying28 h
  match xs, hxl with
  | [y0, y1], _ =>
    have g0 := hf 0 _ rfl
    have g1 := hf 1 _ rfl
    simp [Tryz.cells2, Tryz.cells26] at g0 g1
    obtain ⟨base, e0, _, _⟩ := DataW.trod_int Tryz.underlying2 g0
    obtain ⟨a, n, cap, f, g, rfl, hn, hc, _⟩ := open_cats g1
    simp only [List.cons.injEq, and_true] at e0
    exact ⟨base, a, n, cap, f, g, e0, rfl, hn, hc⟩

set_option maxRecDepth 100000 in
/-- A thread as it came in. -/
theorem open_thread {H : Type} {enc : TypeId × Value → H} {W : World} {r : Reach} {b0 : Nat} {v : Value} {d : DataW H} {p : List MemPlace}
    (hv : Value.okWide Tryz.prog W r b0 82 v) (h : DataW.Trod enc Tryz.prog W 0 (fun _ => true) true 82 v d p) :
    ∃ (id made b1 : Int) (a1 : Option Addr) (n1 k1 : Nat) (f1 g1 : Nat → Int) (b2 : Int) (a2 : Option Addr) (n2 k2 : Nat) (f2 g2 : Nat → Int) (a3 : Option Addr) (n3 k3 : Nat) (q : Nat → Int),
      v = .agg #[.int .i64 id, .int .i64 b1, .slice a1 n1 k1, .int .i64 b2, .slice a2 n2 k2, .slice a3 n3 k3, .int .i64 made] ∧ n1 ≤ maxLen ∧ n2 ≤ maxLen ∧ n3 ≤ maxLen ∧ CatsAt W a1 n1 f1 g1 ∧ CatsAt W a2 n2 f2 g2 ∧ IntsAt W a3 n3 q := by
  obtain ⟨cs, rfl, hsz⟩ := okWide_struct Tryz.underlying82 hv
  rw [Tryz.cells82] at hsz
  obtain ⟨fuel, hf0⟩ := h
  obtain ⟨xs, k, hk, _, _, hxl, hf⟩ := DataW.trod_struct Tryz.underlying82 hf0
  obtain ⟨l⟩ := cs
  match l, hsz with
  | [c0, c1, c2, c3, c4, c5, c6], _ =>
    match xs, hxl with
    | [y0, y1, y2, y3, y4], _ =>
      have g0 := hf 0 _ rfl
      have g1 := hf 1 _ rfl
      have g2 := hf 2 _ rfl
      have g3 := hf 3 _ rfl
      have g4 := hf 4 _ rfl
      simp [Value.cells, Tryz.cells2, Tryz.cells28, Tryz.cells31] at g0 g1 g2 g3 g4
      obtain ⟨id, e0, _, _⟩ := DataW.trod_int Tryz.underlying2 g0
      obtain ⟨b1, a1, n1, k1, f1, h1, rfl, rfl, hn1, hc1⟩ := label_cells g1
      obtain ⟨b2, a2, n2, k2, f2, h2, rfl, rfl, hn2, hc2⟩ := label_cells g2
      obtain ⟨a3, n3, k3, q, rfl, hn3, hc3, _⟩ := open_nums g3
      obtain ⟨made, e4, _, _⟩ := DataW.trod_int Tryz.underlying2 g4
      simp only [List.cons.injEq, and_true] at e0 e4
      subst e0 e4
      exact ⟨id, made, b1, a1, n1, k1, f1, h1, b2, a2, n2, k2, f2, h2, a3, n3, k3, q, rfl, hn1, hn2, hn3, hc1, hc2, hc3⟩
end Go.Proofs.YtgkfcjcdfbmbjaaGreat
