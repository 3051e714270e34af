/- The reader's owned categories: rising, few. -/
import Derived.Test.YtjolkbcnglhebaaGB
import Derived.Test.YtjolkbcnglhebaaRD
namespace Go.Proofs.Ytjolkbcnglhebaa
open Go.RowKit Go.Deep Go.Maps

/-- rising categories -/
def GoodO (l : List Int) : Prop := l.Pairwise (· < ·) ∧ ∀ y ∈ l, 1 ≤ y ∧ y ≤ 9999

theorem putL_len (L : List Int) (x : Int) : (putL L x).length ≤ L.length + 1 := by
  unfold putL
  split
  · omega
  · simp; omega

theorem putL_pos (L : List Int) (x : Int) : 0 < (putL L x).length := by
  unfold putL
  split
  · rename_i h
    have := (List.getElem?_eq_some_iff.1 h).1
    omega
  · simp; omega

theorem putL_mem {L : List Int} {x y : Int} (h : y ∈ putL L x) : y ∈ L ∨ y = x := by
  unfold putL at h
  split at h
  · exact .inl h
  · rw [List.mem_append, List.mem_append, List.mem_singleton] at h
    rcases h with (h | h) | h
    · exact .inl (List.mem_of_mem_take h)
    · exact .inr h
    · exact .inl (List.mem_of_mem_drop h)

theorem putL_rise {L : List Int} {x : Int} (h : L.Pairwise (· < ·)) : (putL L x).Pairwise (· < ·) := by
  unfold putL
  split
  · exact h
  · rename_i hx
    have hlo : ∀ y ∈ L.take (putAt L x), y < x := by
      intro y hy
      obtain ⟨j, hj, rfl⟩ := List.getElem_of_mem hy
      have hj' : j < putAt L x := by simp at hj; omega
      have := List.not_of_lt_findIdx hj'
      simp at this
      simpa using this
    have hhi : ∀ y ∈ L.drop (putAt L x), x < y := by
      intro y hy
      obtain ⟨j, hj, rfl⟩ := List.getElem_of_mem hy
      rw [List.getElem_drop]
      have hlen : putAt L x < L.length := by simp at hj; omega
      have h0 : ¬ L[putAt L x] < x := by
        have := List.findIdx_getElem (xs := L) (p := fun y => !decide (y < x)) (w := hlen)
        unfold putAt
        simpa using this
      have h1 : L[putAt L x] ≠ x := fun e => hx (by rw [List.getElem?_eq_getElem hlen, e])
      by_cases ej : j = 0
      · subst ej
        simp
        omega
      · have := List.pairwise_iff_getElem.1 h (putAt L x) (putAt L x + j) hlen (by simp at hj; omega) (by omega)
        omega
    rw [List.append_assoc, List.pairwise_append]
    refine ⟨h.sublist (List.take_sublist _ _), ?_, ?_⟩
    · rw [List.singleton_append, List.pairwise_cons]
      exact ⟨hhi, h.sublist (List.drop_sublist _ _)⟩
    · intro y hy z hz
      have h1 := hlo y hy
      rw [List.singleton_append, List.mem_cons] at hz
      rcases hz with rfl | hz
      · exact h1
      · have := hhi z hz; omega

theorem GoodO.put {L : List Int} {x : Int} (h : GoodO L) (h1 : 1 ≤ x) (h2 : x ≤ 9999) : GoodO (putL L x) :=
  ⟨putL_rise h.1, fun y hy => by
    rcases putL_mem hy with hy | rfl
    · exact h.2 y hy
    · exact ⟨h1, h2⟩⟩

theorem GoodO.own {l : List Int} (h : GoodO l) (hl : l.length ≤ 10) : ownOk l.length (numAt l) = true := by
  rw [ownOk_all]
  · simpa using hl
  · intro i hi
    have e : numAt l i = l[i] := by simp [numAt, hi]
    have hr := h.2 l[i] (List.getElem_mem hi)
    refine ownAt_y0 (inB_iff.2 (by rw [e]; exact hr)) ?_
    by_cases i0 : i = 0
    · exact .inl i0
    · right
      have e1 : numAt l (i - 1) = l[i - 1] := by simp [numAt, show i - 1 < l.length by omega]
      rw [e, e1]
      exact List.pairwise_iff_getElem.1 h.1 (i - 1) i (by omega) hi (by omega)

theorem OwnI.form {w : World} {B vc : Nat} {va : Option Addr} {l : List Int} (h : OwnI w B (.slice va l.length vc) l) (hl : 0 < l.length) : ∃ g, va = some ⟨g, 0, none⟩ ∧ B ≤ g ∧ g < w.heap.size ∧ l.length ≤ vc ∧ vc ≤ maxLen := by
  rcases h.2 with ⟨_, h0⟩ | ⟨g, cap, cur, hv, hb, hg, hn, hm, _⟩
  · omega
  · simp only [Value.slice.injEq] at hv
    obtain ⟨rfl, _, rfl⟩ := hv
    exact ⟨g, rfl, hb, (Array.getElem?_eq_some_iff.1 hg).1, hn, hm⟩

theorem OwnI.kept {w w' : World} {B rb : Nat} {v : Value} {l : List Int} (h : OwnI w B v l) (hg : w.grownBy w' (some rb)) (hB : rb < B) : OwnI w' B v l :=
  World.ownsRow.kept h hg (Or.inr (fun e => by have := (World.ownsRow.lt h _ e).1; omega))
theorem OwnI.below {w w' : World} {B : Nat} {v : Value} {l : List Int} (h : OwnI w B v l) (hb : Below w.heap.size w w') : OwnI w' B v l :=
  World.ownsRow.kept h (row := none) ⟨hb.os, hb.tape, hb.output, hb.size, fun k hk _ => hb.block k hk⟩ (by
    cases hv : v.ownBlock with
    | none => exact .inl rfl
    | some k => exact .inr (by simp))
theorem OwnI.low {w : World} {B B' : Nat} {v : Value} {l : List Int} (h : OwnI w B v l) (hB : B' ≤ B) : OwnI w B' v l := by
  refine ⟨h.1, ?_⟩
  rcases h.2 with hn | ⟨g, cap, cur, hv, hb, rest⟩
  · exact .inl hn
  · exact .inr ⟨g, cap, cur, hv, by omega, rest⟩

def litO (x : Nat) : Int := if x = 0 then 1001 else if x = 1 then 2001 else 3001
theorem litO_cell {W : World} {q : Nat} (h : Blk W q (.cells #[.int .i64 1001, .int .i64 2001, .int .i64 3001] 2)) {x : Nat} (hx : x < 3) : W.cell? ⟨q, x, none⟩ = some (.int .i64 (litO x)) := by
  unfold Blk at h
  have : x = 0 ∨ x = 1 ∨ x = 2 := by omega
  rcases this with rfl | rfl | rfl <;> simp [World.cell?, h, litO]
theorem litO_ok (x : Nat) : 1 ≤ litO x ∧ litO x ≤ 9999 := by unfold litO; split <;> (try split) <;> omega

set_option maxRecDepth 100000 in
set_option maxHeartbeats 4000000 in
theorem owns_any (w0 : World) (rb : Nat) (a : Option Addr) (n cap : Nat) (w : World) (h : Rd w0 w rb a n cap) :
    Calls Try.prog 49 #[.pointer (some ⟨rb, 0, none⟩)] w fun e w' => ∃ (l : List Int) (A : Addr) (vc : Nat), e = .returned (.slice (some A) l.length vc) ∧ l.length ≤ 2 ∧ GoodO l ∧ OwnI w' w.heap.size (.slice (some A) l.length vc) l ∧ Rd w0 w' rb a n cap ∧ w.grownBy w' (some rb) := by
  have HR : Hid (Rd w0 w rb a n cap) := h
  have lr := h.lt
  clear h
  have K0 := (Below.refl _ w).alloc (Nat.le_refl _) (.cells #[] 2)
  have O0 := OwnI.made w w.heap.size (Nat.le_refl _)
  go_enter Try.func49, Try.ntmps49
  go_wp2_with fail
  refine (below_any w0 rb a n cap 3 _ (by omega) (HR.out.below K0)).mono ?_
  rintro e u1 ⟨m, rfl, _, m2, R1, g1⟩
  have m2' := m2 (by omega)
  have O1 := O0.kept g1 lr
  have G1 : w.grownBy u1 (some rb) := grown_pair (grown_trans (grown_refl w rb) (World.grownBy_alloc w _ none) (fun j e => by cases e)) g1
  clear g1 O0 K0 HR m2
  go_wp2_with fail
  go_loopw [3, 4] (fun o i wr => ∃ (k : Nat) (l : List Int) (A : Addr) (vc : Nat), k ≤ 2 ∧ i = .int .i64 k ∧ o = .slice (some A) l.length vc ∧ l.length + k ≤ 2 ∧ l.length ≤ vc ∧ vc ≤ maxLen ∧ GoodO l ∧ OwnI wr w.heap.size (.slice (some A) l.length vc) l ∧ Rd w0 wr rb a n cap ∧ w.grownBy wr (some rb)) (fun _ i _ => (intOf i).toNat)
  case atStart => exact ⟨m, [], _, 0, by omega, rfl, rfl, by simp; omega, by simp, Nat.zero_le _, ⟨by simp, by simp⟩, O1, R1, G1⟩
  case round =>
    obtain ⟨k, l, A, vc, hk, rfl, rfl, hlk, hlv, hvm, hgl, O2, R2, G2⟩ := hrel
    clear O1 R1 G1
    by_cases hlt : 0 < k
    · have hlt' : (0 : Int) < (k : Int) := by omega
      have wk : IntKind.i64.wrap ((k : Int) - 1) = (k : Int) - 1 := by rw [IntKind.wrap_i64]; omega
      have K2 := (Below.refl _ wr).alloc (Nat.le_refl _) (.cells #[.int .i64 1001, .int .i64 2001, .int .i64 3001] 2)
      have Y2 := Blk.new wr (.cells #[.int .i64 1001, .int .i64 2001, .int .i64 3001] 2)
      go_wp2_with fail
      refine (below_any w0 rb a n cap 3 _ (by omega) (R2.below K2)).mono ?_
      rintro e u3 ⟨x, rfl, _, x2, R3, g3⟩
      have x2' := x2 (by omega)
      have lrr := R2.lt
      have Y3 := Y2.grown g3 (by simp; omega)
      have O3 := (O2.below K2).kept g3 lr
      have G3 : w.grownBy u3 (some rb) := grown_pair (grown_below G2 K2) g3
      have hx := litO_cell Y3 x2'
      have xi : (x : Int) < 3 := by omega
      have lo := litO_ok x
      generalize litO x = y at *
      clear x2 g3 Y2 K2
      go_wp2_with fail
      refine (l2Put_any A vc l y _ (by omega) hlv hvm O3.lies).mono ?_
      rintro e u4 ⟨va, vc', rfl, O4, E4⟩
      have hp := putL_pos l y
      have hl4 := putL_len l y
      have hg4 := GoodO.put hgl lo.1 lo.2
      obtain ⟨g, rfl, hg0, hg1, hg2, hg3⟩ := O4.form hp
      have O5 := O4.low (B' := w.heap.size) G3.size
      have R4 := R3.below E4
      have G4 := grown_below G3 E4
      generalize putL l y = l' at *
      clear O4 O3 R3 G3 Y3 hx E4 O2 R2 G2
      go_wp2_with fail
      go_roundw
      case rel =>
        refine ⟨k - 1, l', _, vc', by omega, ?_, rfl, by omega, hg2, hg3, hg4, O5, R4, G4⟩
        have : ((k - 1 : Nat) : Int) = (k : Int) - 1 := by omega
        rw [this]
      case measure => simp [intOf]; omega
    · have nlt : ¬ (0 : Int) < (k : Int) := by omega
      go_wp2
      go_ret
      exact ⟨l, A, vc, rfl, by omega, hgl, O2, R2, G2⟩
end Go.Proofs.Ytjolkbcnglhebaa
