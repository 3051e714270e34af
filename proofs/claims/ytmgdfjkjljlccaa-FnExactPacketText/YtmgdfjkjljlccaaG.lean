/- How a packet that came in is opened: the numbers and the text that lie there. -/
import Derived.Test.YtmgdfjkjljlccaaGS
import Derived.Test.YtmgdfjkjljlccaaPD
namespace Go.Proofs.Ytmgdfjkjljlccaa
open Go.ChangeShapes Go.WideShapes Go.ChangeAt Go.RowKit Go.Deep Go.Joins

theorem Try.cells2 : Try.prog.cellsOf 2 = 1 := by kernel_rfl
theorem Try.cells9 : Try.prog.cellsOf 9 = 1 := by kernel_rfl
theorem Try.cells25 : Try.prog.cellsOf 25 = 4 := by kernel_rfl

/-- A packet as it came in. -/
theorem open_packet {H : Type} {enc : TypeId × Value → H} {W : World} {r : Reach} {b0 : Nat} {v : Value} {d : DataW H} {p : List MemPlace}
    (hv : Value.okWide Try.prog W r b0 25 v) (h : DataW.Trod enc Try.prog W 0 (fun _ => true) true 25 v d p) :
    ∃ (f t k : Int) (B : List UInt8), v = .agg #[.int .i64 f, .int .i64 t, .int .i64 k, .string ⟨B.toArray⟩] ∧ B.length ≤ maxLen := by
  obtain ⟨cs, rfl, hsz⟩ := okWide_struct Try.underlying25 hv
  rw [Try.cells25] at hsz
  obtain ⟨fuel, hf0⟩ := h
  obtain ⟨xs, k, hk, _, _, hxl, hf⟩ := DataW.trod_struct Try.underlying25 hf0
  obtain ⟨l⟩ := cs
  match l, hsz with
  | [c0, c1, c2, c3], _ =>
    match xs, hxl with
    | [y0, y1, y2, y3], _ =>
      have g0 := hf 0 _ rfl
      have g1 := hf 1 _ rfl
      have g2 := hf 2 _ rfl
      have g3 := hf 3 _ rfl
      simp [Value.cells, Try.cells2, Try.cells9] at g0 g1 g2 g3
      obtain ⟨f, e0, _, _⟩ := DataW.trod_int Try.underlying2 g0
      obtain ⟨t, e1, _, _⟩ := DataW.trod_int Try.underlying2 g1
      obtain ⟨k, e2, _, _⟩ := DataW.trod_int Try.underlying2 g2
      obtain ⟨b, e3, _, hb⟩ := DataW.trod_string Try.underlying9 g3
      simp only [List.cons.injEq, and_true] at e0 e1 e2 e3
      subst e0 e1 e2 e3
      exact ⟨f, t, k, b.data.toList, by cases b; rfl, by rw [Array.length_toList]; exact hb⟩
end Go.Proofs.Ytmgdfjkjljlccaa
