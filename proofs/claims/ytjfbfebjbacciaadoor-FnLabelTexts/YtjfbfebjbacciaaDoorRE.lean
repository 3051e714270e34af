/- Drawn labels: what DrawLabelText and DrawLeq leave. -/
import Derived.Test.YtjfbfebjbacciaaDoorRD
namespace Go.Proofs.YtjfbfebjbacciaaDoor
open Go.RowKit Go.Deep Go.Maps

theorem BytesAt.below {w w' : World} {a : Option Addr} {n : Nat} (h : BytesAt w a n) (hb : Below w.heap.size w w') : BytesAt w' a n := fun h0 => by
  obtain ⟨b, off, e, hlt, hc⟩ := h h0
  exact ⟨b, off, e, Nat.lt_of_lt_of_le hlt hb.size, fun i hi => by obtain ⟨v, hv, r⟩ := hc i hi; exact ⟨v, (hb.cell (p := ⟨b, off + i, none⟩) hlt).trans hv, r⟩⟩

theorem l1Open_any (a : Option Addr) (n cap : Nat) (w : World) (hn : n ≤ 1048576) (hb : BytesAt w a n) :
    Calls Tryd.prog 17 #[.slice a n cap] w fun e w' => ∃ rb, e = .returned (.pointer (some ⟨rb, 0, none⟩)) ∧ Rd w w' rb a n cap := by
  have R : Rd w (w.alloc (.cells #[.slice a n cap, .int .i64 0] 67)) w.heap.size a n cap :=
    ⟨(Below.refl _ w).alloc (Nat.le_refl _) _, Nat.le_refl _, hb, hn, 0, Nat.zero_le _, Blk.new w _⟩
  have HR : Hid (Rd w (w.alloc (.cells #[.slice a n cap, .int .i64 0] 67)) w.heap.size a n cap) := R
  clear R hb
  go_enter Tryd.func17, Tryd.ntmps17
  go_wp2
  go_ret
  exact ⟨_, rfl, HR.out⟩

set_option maxRecDepth 100000 in
set_option maxHeartbeats 2000000 in
theorem drawText_any (a : Option Addr) (n cap : Nat) (w : World) (hn : n ≤ 1048576) (hb : BytesAt w a n) :
    Calls Tryd.prog 6 #[.slice a n cap] w fun e w' => ∃ (base : Int) (l : List (Int × Int)) (va : Option Addr) (vc : Nat), e = .returned (.agg #[.int .i64 base, .slice va l.length vc]) ∧ l.length ≤ 3 ∧ CatsAt w' va l.length (fstAt l) (sndAt l) ∧ Below w.heap.size w w' := by
  have K0 := (Below.refl _ w).alloc (Nat.le_refl _) (.cells #[.int .i64 0, .slice none 0 0] 26)
  have Y0 := Blk.new w (.cells #[.int .i64 0, .slice none 0 0] 26)
  have HB : Hid (BytesAt w a n) := hb
  clear hb
  go_enter Tryd.func6, Tryd.ntmps6
  go_wp2_with fail
  refine (l1Open_any a n cap _ hn (HB.out.below K0)).mono ?_
  rintro e u1 ⟨rb, rfl, R1⟩
  have Y1 := Y0.below R1.E
  have rl : w.heap.size + 1 ≤ rb := by have := R1.le; simpa using this
  go_wp2_with fail
  refine (rdLabel_any _ rb a n cap _ R1).mono ?_
  rintro e u2 ⟨base, l, va, vc, rfl, l3, ho, R2, g2⟩
  have Y2 := Y1.grown g2 (by simp; omega)
  have E2 : Below w.heap.size w u2 := K0.trans (R2.E.mono (by simp))
  have lu : w.heap.size < u1.heap.size := Y1.lt
  have HO : Hid (OwnList u2 u1.heap.size (.slice va l.length vc) l) := ho
  clear R1 R2 g2 Y1 Y0 K0 HB ho
  obtain ⟨y1, y2⟩ := Y2.two
  have yf0 := Y2.frozen2 0
  have yf1 := Y2.frozen2 1
  go_wp2
  refine bodyPost_ret (v := .agg #[.int .i64 base, .slice va l.length vc]) (by simp [results, Tryd.results6, go_sem, *]) rfl ⟨base, l, va, vc, rfl, l3, ?_, ?_⟩
  · exact OwnCats.cats (OwnList.set (OwnList.set HO.out lu _ _) lu _ _)
  · exact (E2.setCell (by dsimp only; omega) _).setCell (by dsimp only; omega) _

end Go.Proofs.YtjfbfebjbacciaaDoor
