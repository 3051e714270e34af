/- FnExactSync: the walk. -/
import Derived.Test.YtcchpeebhkiacaaMF
namespace Go.Proofs.Ytcchpeebhkiacaa
open Go Go.RowKit Go.Deep Go.Maps

theorem DiskV.row.rowD {w : World} {d : DiskV} {x y z lo : Nat} (h : d.row w x y z) (h1 : lo ≤ x ∧ lo ≤ y ∧ lo ≤ z ∧ x ≠ y) : RowD w lo w.heap.size (.slice (some ⟨x, 0, none⟩) d.live.n d.live.n) (.slice (some ⟨y, 0, none⟩) d.safe.n d.safe.n) (.slice (some ⟨z, 0, none⟩) d.ops.n d.ops.n) d.live.n d.safe.n d.ops.n :=
  ⟨.inr ⟨x, _, _, _, rfl, h.1, Nat.le_refl _⟩, .inr ⟨y, _, _, _, rfl, h.2.1, Nat.le_refl _⟩, .inr ⟨z, _, _, _, rfl, h.2.2, Nat.le_refl _⟩, .inr (fun e => h1.2.2.2 (by simpa [Value.ownBlock] using e)),
   fun b hb => by have e : x = b := by simpa [Value.ownBlock] using hb
                  subst e; exact ⟨h1.1, h.1.lt⟩,
   fun b hb => by have e : y = b := by simpa [Value.ownBlock] using hb
                  subst e; exact ⟨h1.2.1, h.2.1.lt⟩,
   fun b hb => by have e : z = b := by simpa [Value.ownBlock] using hb
                  subst e; exact ⟨h1.2.2.1, h.2.2.lt⟩⟩
theorem AnsI.rowD {w : World} {B : Nat} {vl vs vo : Value} {L S : List FileV} {O : List OpV} (h : AnsI w B vl vs vo L S O) : RowD w B w.heap.size vl vs vo L.length S.length O.length :=
  ⟨h.l.rowF, h.s.rowF, h.o.rowO, h.ap, fun b hb => World.ownsRow.lt h.l b hb, fun b hb => World.ownsRow.lt h.s b hb, fun b hb => World.ownsRow.lt h.o b hb⟩
theorem AnsI.dat {w : World} {B : Nat} {vl vs vo : Value} {L S : List FileV} {O : List OpV} (h : AnsI w B vl vs vo L S O) : DAt w vl vs vo L.length S.length O.length (fileAt L) (fileAt S) (opAt O) := ⟨h.l.atF, h.s.atF, h.o.atO⟩
theorem RowD.shapes {w : World} {lo hi : Nat} {vl vs vo : Value} {nl ns no : Nat} (h : RowD w lo hi vl vs vo nl ns no) : (∃ a c, vl = .slice a nl c) ∧ (∃ a c, vs = .slice a ns c) ∧ ∃ a c, vo = .slice a no c := by
  refine ⟨?_, ?_, ?_⟩
  · rcases h.l with ⟨rfl, c, rfl⟩ | ⟨b, c, _, _, rfl, _⟩ <;> exact ⟨_, _, rfl⟩
  · rcases h.s with ⟨rfl, c, rfl⟩ | ⟨b, c, _, _, rfl, _⟩ <;> exact ⟨_, _, rfl⟩
  · rcases h.o with ⟨rfl, c, rfl⟩ | ⟨b, c, _, _, rfl, _⟩ <;> exact ⟨_, _, rfl⟩
theorem syncL_len (d : DiskV) (h : d.small) : (syncL d).length ≤ 1048576 := by
  unfold syncL
  split
  · rw [toL_len]; exact h.1
  · exact Nat.zero_le _

end Go.Proofs.Ytcchpeebhkiacaa
