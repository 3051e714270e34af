/- The reader's bytes: a few bytes of any kind. -/
import Derived.Test.YtjfbfebjbacciaaDoorGQ
import Derived.Test.YtjfbfebjbacciaaDoorMA
namespace Go.Proofs.YtjfbfebjbacciaaDoor
open Go Go.RowKit Go.Deep Go.Maps
open Go.WideShapes (add_plain)

theorem size_ofR (l : List UInt8) : (⟨l.toArray⟩ : ByteArray).size = l.length := by simp [ByteArray.size]
def bcells (l : List UInt8) : List Value := l.map fun b => Value.int .u8 b.toNat
def OwnB (w : World) (B : Nat) (v : Value) (l : List UInt8) : Prop := w.ownsRow B 5 1 v l.length (bcells l)

theorem one_u8 {w : World} (x : Int) : LiesC (w.alloc (.cells #[.int .u8 x] 5)) (some ⟨w.heap.size, 0, none⟩) 1 [.int .u8 x] := fun _ =>
  ⟨w.heap.size, 0, rfl, by simp, fun j u hu => by
    cases j with
    | zero => simp at hu; subst hu; simp
    | succ j => simp at hu⟩

theorem wpList_append_byte {ops : Array Oper} {rest : List Oper} {o : Oper} {a : Act} {Q : Exit → Act → World → Prop} (w : World) (hgd : o.guard = none) (s x : Operand)
    (ho : o.op = .call { callee := .builtin .append, args := #[s, x], argTypes := #[22, 22] })
    (B : Nat) (v : Value) (l : List UInt8) (hs : a.eval s = v) (hown : OwnB w B v l) (ad : Option Addr) (c : Nat) (b : UInt8) (hx : a.eval x = .slice ad 1 c) (hc : LiesC w ad 1 [.int .u8 b.toNat])
    (hm : l.length ≤ 1000) (hB : B ≤ w.heap.size)
    (h : ∀ g c' w', OwnB w' B (.slice (some ⟨g, 0, none⟩) (l ++ [b]).length c') (l ++ [b]) → w.grownBy w' v.ownBlock → wpList Tryd.prog ops Q rest (a.put o.dst (.slice (some ⟨g, 0, none⟩) (l ++ [b]).length c')) w') : wpList Tryd.prog ops Q (o :: rest) a w := by
  refine wpList_plain hgd fun _ hK => wp_append_gen Tryd.underlying22 Tryd.info5 rfl (by omega) w s x ho B v l.length _ hs hown ad 1 c [.int .u8 b.toNat] hx (by simp) hc (fun u hu => by simp at hu; subst hu; rfl) (by omega) (by omega) hB fun a' c' w' h2 h3 _ => hK _ _ ?_
  have e1 : bcells l ++ [Value.int .u8 b.toNat] = bcells (l ++ [b]) := by simp [bcells]
  have e2 : l.length + 1 = (l ++ [b]).length := by simp
  rw [e1] at h2
  obtain ⟨g, cap, hv, _, _⟩ := World.ownsRow.form h2 (by omega)
  simp only [Value.slice.injEq] at hv
  obtain ⟨rfl, _, _⟩ := hv
  rw [e2] at h2 ⊢
  exact h g c' w' h2 h3

theorem OwnB.text {w : World} {B g n c : Nat} {l : List UInt8} (h : OwnB w B (.slice (some ⟨g, 0, none⟩) n c) l) (hn : n = l.length) : (convert 22 9 (.slice (some ⟨g, 0, none⟩) n c)).run Tryd.prog w = .ok (.string ⟨l.toArray⟩) w := by
  subst hn
  refine run_convert_bytes_back (P := Tryd.prog) w 22 9 5 ⟨g, 0, none⟩ c l Tryd.underlying22 Tryd.underlying5 Tryd.underlying9 fun j hj => ?_
  exact World.ownsRow.cells h (g := g) rfl j _ (by simp [bcells, hj])

set_option maxRecDepth 100000 in
set_option maxHeartbeats 2000000 in
theorem rdBytes_any (w0 : World) (rb : Nat) (a : Option Addr) (n cap : Nat) (w : World) (h : Rd w0 w rb a n cap) :
    Calls Tryd.prog 44 #[.pointer (some ⟨rb, 0, none⟩), .int .i64 2] w fun e w' => ∃ s : ByteArray, e = .returned (.string s) ∧ s.size ≤ 2 ∧ Rd w0 w' rb a n cap ∧ w.grownBy w' (some rb) := by
  have hrb : rb < w.heap.size := h.lt
  have K0 := (Below.refl _ w).alloc (Nat.le_refl _) (.cells #[] 5)
  have R0 := h.below K0
  have O0 : OwnB (w.alloc (.cells #[] 5)) w.heap.size (.slice (some ⟨w.heap.size, 0, none⟩) 0 0) [] := World.ownsRow_made w #[] 0 (Nat.le_refl _) (Nat.zero_le _) rfl
  have g0 := World.grownBy_alloc w (.cells #[] 5) (some rb)
  go_enter Tryd.func44, Tryd.ntmps44
  go_wp2_with fail
  refine (below_any w0 rb a n cap 3 _ (by omega) R0).mono ?_
  rintro e w1 ⟨x, rfl, _, hx3, R1, hg1⟩
  have O1 : OwnB w1 w.heap.size (.slice (some ⟨w.heap.size, 0, none⟩) 0 0) [] := World.ownsRow.kept O0 hg1 (Or.inr (fun e => by have := (World.ownsRow.lt O0 _ e).1; omega))
  have G1 : w.grownBy w1 (some rb) := grown_pair g0 hg1
  have hx : x < 3 := hx3 (by omega)
  clear K0 R0 O0 g0 hg1 h
  go_wp2_with fail
  go_loopw [5, 6] (fun v i wr => ∃ (j : Nat) (l : List UInt8) (g c : Nat), l.length + j ≤ 2 ∧ i = .int .i64 j ∧ v = .slice (some ⟨g, 0, none⟩) l.length c ∧ OwnB wr w.heap.size (.slice (some ⟨g, 0, none⟩) l.length c) l ∧ Rd w0 wr rb a n cap ∧ w.grownBy wr (some rb)) (fun _ i _ => (intOf i).toNat)
  case atStart => exact ⟨x, [], w.heap.size, 0, by simp; omega, rfl, rfl, O1, R1, G1⟩
  case round =>
    obtain ⟨j, l, g, c, hl, rfl, rfl, O, R, G⟩ := hrel
    clear O1 R1 G1
    by_cases hj : 0 < j
    · have hj' : (0 : Int) < (j : Int) := by omega
      go_wp2_with fail
      refine (below_any w0 rb a n cap 256 _ (by omega) R).mono ?_
      rintro e w2 ⟨y, rfl, _, hy, R2, hg2⟩
      have hy' : y < 256 := hy (by omega)
      have hyi : (y : Int) < 256 := by omega
      have O2 : OwnB w2 w.heap.size (.slice (some ⟨g, 0, none⟩) l.length c) l := World.ownsRow.kept O hg2 (Or.inr (fun e => by have := (World.ownsRow.lt O _ e).1; omega))
      have G2 : w.grownBy w2 (some rb) := grown_pair G hg2
      have sz : w.heap.size ≤ w2.heap.size := G2.size
      have eb : ((UInt8.ofNat y).toNat : Int) = (y : Int) := by rw [UInt8.toNat_ofNat_of_lt' (by simp [UInt8.size]; omega)]
      have HL : Hid (LiesC (w2.alloc (.cells #[.int .u8 y] 5)) (some ⟨w2.heap.size, 0, none⟩) 1 [.int .u8 (UInt8.ofNat y).toNat]) := by
        show LiesC _ _ _ _
        rw [eb]
        exact one_u8 _
      have HO : Hid (OwnB (w2.alloc (.cells #[.int .u8 y] 5)) w.heap.size (.slice (some ⟨g, 0, none⟩) l.length c) l) := World.ownsRow.alloc O2 _
      have lm : l.length ≤ 1000 := by omega
      clear O R G hg2 eb
      go_wp2_with (at_builtin; refine wpList_append_byte _ rfl _ _ rfl w.heap.size _ l rfl HO.out _ 1 (UInt8.ofNat y) rfl HL.out lm (Nat.le_trans sz (by simp)) ?_; intro g' c' w3 O3 hg3)
      have hgB : w.heap.size ≤ g := (World.ownsRow.lt HO.out g rfl).1
      have hle := R2.le
      have R3 : Rd w0 w3 rb a n cap := (R2.below ((Below.refl _ w2).alloc (Nat.le_refl _) (.cells #[.int .u8 y] 5))).other hg3 (by dsimp only; omega) (by dsimp only; omega)
      have G3 : w.grownBy w3 (some rb) := grown_trans (grown_trans G2 (World.grownBy_alloc w2 _ none) (fun j e => by cases e)) hg3 (fun j e => by cases e; exact hgB)
      go_roundw
      case rel =>
        obtain ⟨q, rfl⟩ : ∃ q, j = q + 1 := ⟨j - 1, by omega⟩
        refine ⟨q, l ++ [UInt8.ofNat y], g', c', by rw [List.length_append]; simp; omega, by go_num, ?_, O3, R3, G3⟩
        first | rfl | simp
      case measure => simp [intOf]; omega
    · obtain rfl : j = 0 := by omega
      have k1 := O.text rfl
      go_wp2
      go_ret
      exact ⟨_, rfl, by rw [size_ofR]; omega, R, G⟩
end Go.Proofs.YtjfbfebjbacciaaDoor
