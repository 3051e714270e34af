/- Two labels handed to a call that answers a label, all in one statement: what is asked of the memory. -/
import Derived.Test.YtjmfaffghkclbaaWI
import Derived.Test.YtjmfaffghkclbaaJL
namespace Go.Proofs.Ytjmfaffghkclbaa
open Go.RowKit Go.Deep Go.Maps

theorem CatsAt.setP {W : World} {P t : Nat} {x : Value} {s : Option Addr} {s1 s2 : Nat} {a : Option Addr} {n : Nat} {f g : Nat → Int} (h : CatsAt W a n f g) (hb : Blk W P (.cells #[x, .slice s s1 s2] t)) (i : Nat) (v : Value) : CatsAt (W.setCell ⟨P, i, none⟩ v) a n f g := fun h0 => by
  obtain ⟨b, off, e, hlt, hc⟩ := h h0
  have hne : b ≠ P := fun hq => by
    have h1 := (hc 0 h0).2
    rw [hq] at h1
    unfold Blk at hb
    simp only [World.cell?, hb] at h1
    have h2 : off + 0 * 2 + 1 = off + 1 := by omega
    rw [h2] at h1
    match off, h1 with
    | 0, h1 => simp at h1
    | k + 1, h1 => simp at h1
  refine ⟨b, off, e, by rw [nblk_setCell]; exact hlt, fun j hj => ⟨?_, ?_⟩⟩
  · exact cell_far hne (hc j hj).1
  · exact cell_far hne (hc j hj).2

theorem put26 {V W : World} {P : Nat} {pa : Option Addr} {pk : Nat} {l : List (Int × Int)} {lb : Int} (Z : Blk W P (.cells #[.int .i64 0, .slice none 0 0] 26)) (hP : V.heap.size ≤ P) (pc : CatsAt W pa l.length (fstAt l) (sndAt l)) (E : Below V.heap.size V W) :
    Blk ((W.setCell ⟨P, 0, none⟩ (.int .i64 lb)).setCell ⟨P, 1, none⟩ (.slice pa l.length pk)) P (.cells #[.int .i64 lb, .slice pa l.length pk] 26) ∧
    CatsAt ((W.setCell ⟨P, 0, none⟩ (.int .i64 lb)).setCell ⟨P, 1, none⟩ (.slice pa l.length pk)) pa l.length (fstAt l) (sndAt l) ∧
    Below V.heap.size V ((W.setCell ⟨P, 0, none⟩ (.int .i64 lb)).setCell ⟨P, 1, none⟩ (.slice pa l.length pk)) :=
  ⟨(Z.set0 _).set1 _, (pc.setP Z 0 _).setP (Z.set0 _) 1 _, (E.setCell (by dsimp only; omega) _).setCell (by dsimp only; omega) _⟩

theorem Blk.new' {W : World} {P : Nat} {o : Obj} (h : P = W.heap.size) : Blk (W.alloc o) P o := by rw [h]; exact Blk.new _ _
theorem Blk.drew {W : World} {P : Nat} {o : Obj} (h : Blk W P o) : Blk W.drew P o := h
theorem CatsAt.alloc {w : World} {a : Option Addr} {n : Nat} {f g : Nat → Int} (h : CatsAt w a n f g) (o : Obj) : CatsAt (w.alloc o) a n f g := h.below ((Below.refl _ _).alloc (Nat.le_refl _) _)
end Go.Proofs.Ytjmfaffghkclbaa
