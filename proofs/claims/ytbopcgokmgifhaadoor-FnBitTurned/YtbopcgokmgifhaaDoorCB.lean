/- l9Keys: the 27 keys. -/
import Derived.Test.YtbopcgokmgifhaaDoorCA
import Derived.Test.YtbopcgokmgifhaaDoorNBW
namespace Go.Proofs.YtbopcgokmgifhaaDoor
open Go Go.RowKit Go.Deep Go.Maps
open Go.WideShapes (add_plain)

def wordsTo (s : ByteArray) : Nat → List Int
  | 0 => []
  | i + 1 => wordsTo s i ++ [kw s i]
theorem wordsTo_len (s : ByteArray) (i : Nat) : (wordsTo s i).length = i := by induction i with
  | zero => rfl
  | succ i ih => simp [wordsTo, ih]
theorem OwnU.cell {w : World} {B g n c : Nat} {l : List Int} (h : OwnU w B (.slice (some ⟨g, 0, none⟩) n c) l) {j : Nat} {x : Int} (hj : l[j]? = some x) : w.cell? ⟨g, j, none⟩ = some (.int .u32 x) := by
  have t := World.ownsRow.cells h (g := g) rfl j (.int .u32 x) (by simp [ucells, hj])
  rw [add_plain] at t
  simpa using t

theorem OwnU.same {w w' : World} {B g n c : Nat} {l : List Int} (h : OwnU w B (.slice (some ⟨g, 0, none⟩) n c) l) (e : w'.heap[g]? = w.heap[g]?) : OwnU w' B (.slice (some ⟨g, 0, none⟩) n c) l := by
  obtain ⟨h1, h2⟩ := h
  refine ⟨h1, ?_⟩
  rcases h2 with ⟨h2, _⟩ | ⟨g1, cap, cur, hv, hb, hg, rest⟩
  · cases h2
  · have eg : g1 = g := by simp only [Value.slice.injEq, Option.some.injEq, Addr.mk.injEq] at hv; exact hv.1.1.symm
    subst eg
    exact .inr ⟨g1, cap, cur, hv, hb, by rw [e]; exact hg, rest⟩
theorem start_own (W : World) (B : Nat) (a b c : Int) (h : B ≤ W.heap.size) : OwnU ((W.alloc (.cells #[.int .u32 a, .int .u32 b, .int .u32 c] 44)).alloc (.cells #[] 44)).drew B (.slice (some ⟨W.heap.size + 1, 0, none⟩) 0 0) [] := by
  refine ⟨rfl, .inr ⟨W.heap.size + 1, 0, #[], rfl, by omega, ?_, Nat.le_refl _, Nat.zero_le _, rfl, rfl⟩⟩
  have t := heap_alloc_new (W.alloc (.cells #[.int .u32 a, .int .u32 b, .int .u32 c] 44)) (.cells #[] 44)
  rw [World.size_alloc] at t
  exact t
theorem start_q (W : World) (B : Nat) (a b c : Int) (h : B ≤ W.heap.size) : Q3 ((W.alloc (.cells #[.int .u32 a, .int .u32 b, .int .u32 c] 44)).alloc (.cells #[] 44)).drew B W.heap.size 0 3 a b c := by
  refine Q3.drew (Q3.alloc ?_ _)
  have t := heap_alloc_new W (.cells #[.int .u32 a, .int .u32 b, .int .u32 c] 44)
  refine ⟨h, ⟨_, t, rfl⟩, by omega, ?_, ?_, ?_⟩ <;> simp only [World.cell?, t] <;> rfl
theorem cell_new1 (w : World) (v : Value) : (w.alloc (.cells #[v] 44)).cell? ⟨w.heap.size, 0, none⟩ = some v := by simp
theorem alloc_le {B : Nat} {w : World} (o : Obj) (h : B ≤ w.heap.size) : B ≤ (w.alloc o).heap.size := by rw [World.size_alloc]; omega
theorem more_eq (q k : Int) (j : Nat) : bits .xor .u32 ((k + r8 q) % 4294967296) (j : Int) = rx q k j := by
  unfold rx
  rw [Int.add_comm]

set_option maxRecDepth 100000 in
set_option maxHeartbeats 2000000 in
theorem l9Keys_any (s : ByteArray) (w : World) (hs : s.size = 16) :
    Calls Tryd.prog 40 #[.string s] w fun e w' => ∃ g c, e = .returned (.slice (some ⟨g, 0, none⟩) 27 c) ∧ OwnU w' w.heap.size (.slice (some ⟨g, 0, none⟩) 27 c) (keysTo s 27) ∧ Below w.heap.size w w' := by
  have K0 := (Below.refl _ w).alloc (Nat.le_refl _) (.cells #[] 44)
  have O0 : OwnU (w.alloc (.cells #[] 44)) w.heap.size (.slice (some ⟨w.heap.size, 0, none⟩) 0 0) [] := World.ownsRow_made w #[] 0 (Nat.le_refl _) (Nat.zero_le _) rfl
  have HS := hid hs
  clear hs
  go_enter Tryd.func40, Tryd.ntmps40
  go_wp2_with fail
  go_loopw [3, 4] (fun v i wr => ∃ (k g c : Nat), k ≤ 4 ∧ i = .int .i64 k ∧ v = .slice (some ⟨g, 0, none⟩) k c ∧ OwnU wr w.heap.size (.slice (some ⟨g, 0, none⟩) k c) (wordsTo s k) ∧ Below w.heap.size w wr) (fun _ i _ => 4 - (intOf i).toNat)
  case atStart => exact ⟨0, w.heap.size, 0, by omega, rfl, rfl, O0, K0⟩
  case round =>
    obtain ⟨k, g, c, hk, rfl, rfl, O, hB⟩ := hrel
    clear K0 O0
    by_cases h0 : k < 4
    · have h0' : (k : Int) < 4 := by omega
      have sz := hB.size
      have HL : Hid (LiesC (wr.alloc (.cells #[.int .u32 (kw s k)] 44)) (some ⟨wr.heap.size, 0, none⟩) 1 [.int .u32 (kw s k)]) := one_u32 _
      have HO : Hid (OwnU (wr.alloc (.cells #[.int .u32 (kw s k)] 44)) w.heap.size (.slice (some ⟨g, 0, none⟩) k c) (wordsTo s k)) := World.ownsRow.alloc O _
      have es : s.size = 16 := HS.out
      have B1 := hB.alloc sz (.cells #[.int .u32 (kw s k)] 44)
      have HLn : Hid ((wordsTo s k).length = k) := wordsTo_len s k
      have hlm : (wordsTo s k).length ≤ 1000 := by have := HLn.out; omega
      have hg := World.ownsRow.lt O g rfl
      clear O
      go_wp2_with (first | (go_at_call 30; refine (l7Num_kn s k _ HS.out h0).mono ?_; rintro e w1 ⟨rfl, rfl⟩) | (at_builtin; refine wpList_append_word _ rfl _ _ rfl w.heap.size _ (wordsTo s k) rfl HO.out _ 1 (kw s k) rfl HL.out hlm (Nat.le_trans sz (by simp)) ?_; intro g' c' w3 O3 hg3 _))
      have B3 : Below w.heap.size w w3 := B1.trans (below_grown hg3 (by simp; omega) (fun x hx => by have e : g = x := Option.some.inj hx; omega))
      have hl1 : (wordsTo s k ++ [kw s k]).length = k + 1 := by rw [List.length_append, HLn.out]; rfl
      have hl2 : (wordsTo s k).length + 1 = k + 1 := by rw [HLn.out]
      rw [hl1] at O3
      refine ⟨⟨k + 1, g', c', by omega, rfl, by rw [hl2], O3, B3⟩, by simp [intOf]; omega⟩
    · obtain rfl : k = 4 := by omega
      have c0 : wr.cell? ⟨g, 0, none⟩ = some (.int .u32 (kw s 0)) := OwnU.cell O rfl
      have c1 : wr.cell? ⟨g, 1, none⟩ = some (.int .u32 (kw s 1)) := OwnU.cell O rfl
      have c2 : wr.cell? ⟨g, 2, none⟩ = some (.int .u32 (kw s 2)) := OwnU.cell O rfl
      have c3 : wr.cell? ⟨g, 3, none⟩ = some (.int .u32 (kw s 3)) := OwnU.cell O rfl
      have hg := World.ownsRow.lt O g rfl
      clear O
      rw [show ((4 : Nat) : Int) = 4 from rfl]
      go_wp2
      go_region
      go_wp2
      have sz := hB.size
      have E1 := start_own wr w.heap.size (kw s 2) (kw s 1) (kw s 0) sz
      have E2 := start_q wr w.heap.size (kw s 2) (kw s 1) (kw s 0) sz
      have E3 := ((hB.alloc sz (.cells #[.int .u32 (kw s 2), .int .u32 (kw s 1), .int .u32 (kw s 0)] 44)).alloc (Nat.le_trans sz (by simp)) (.cells #[] 44)).drew
      go_loopw [5, 6, 7, 8] (fun kv lv ov iv W => ∃ (j go co gl off cl : Nat), j ≤ 27 ∧ iv = .int .u32 j ∧ kv = .int .u32 (sch s j).k ∧ lv = .slice (some ⟨gl, off, none⟩) 3 cl ∧ ov = .slice (some ⟨go, 0, none⟩) j co ∧ OwnU W w.heap.size (.slice (some ⟨go, 0, none⟩) j co) (keysTo s j) ∧ Q3 W w.heap.size gl off cl (sch s j).q0 (sch s j).q1 (sch s j).q2 ∧ go ≠ gl ∧ Below w.heap.size w W) (fun _ _ _ i _ => 27 - (intOf i).toNat)
      case atStart => exact ⟨0, wr.heap.size + 1, 0, wr.heap.size, 0, 3, by omega, rfl, rfl, rfl, rfl, E1, E2, by omega, E3⟩
      case round =>
        clear E1 E2 E3 c0 c1 c2 c3 hg hB sz hk h0
        obtain ⟨j, go, co, gl, off, cl, hj, rfl, rfl, rfl, rfl, O, Q, hne, hB⟩ := hrel
        by_cases h0 : j < 27
        · have h0' : (j : Int) < 27 := by omega
          have K1 : Hid (sch s (j + 1) = ⟨ry (sch s j).q0 (sch s j).k j, (sch s j).q1, (sch s j).q2, rx (sch s j).q0 (sch s j).k j⟩) := rfl
          have K2 : Hid (keysTo s (j + 1) = keysTo s j ++ [(sch s j).k]) := rfl
          have HLn : Hid ((keysTo s j).length = j) := keysTo_len s j
          generalize (sch s j).k = k at *
          generalize (sch s j).q0 = x at *
          generalize (sch s j).q1 = y at *
          generalize (sch s j).q2 = z at *
          generalize keysTo s j = l at *
          have sz := hB.size
          have HL : Hid (LiesC (wr.alloc (.cells #[.int .u32 k] 44)) (some ⟨wr.heap.size, 0, none⟩) 1 [.int .u32 k]) := one_u32 _
          have HO : Hid (OwnU (wr.alloc (.cells #[.int .u32 k] 44)) w.heap.size (.slice (some ⟨go, 0, none⟩) j co) l) := World.ownsRow.alloc O _
          have B1 := hB.alloc sz (.cells #[.int .u32 k] 44)
          have hlm : l.length ≤ 1000 := by have := HLn.out; omega
          have hgo := World.ownsRow.lt O go rfl
          have HQ : Hid (Q3 (wr.alloc (.cells #[.int .u32 k] 44)) w.heap.size gl off cl x y z) := Q.alloc _
          have hgl := Q.lt
          have h3 := Q.three
          have h3' : (1 : Int) ≤ 3 := by omega
          clear O Q
          go_wp2_with (first
            | (at_builtin; refine wpList_append_word _ rfl (.tmp 45) (.tmp 47) rfl w.heap.size _ l rfl HO.out _ 1 k rfl HL.out hlm (Nat.le_trans sz (by simp)) ?_; intro g' c' w3 O3 hg3 hor3; have Q3' := HQ.out.same (hg3.block gl (by simp; omega) (fun e => hne (Option.some.inj e).symm)); have c0 := Q3'.c0)
            | (at_builtin; refine wpList_queue _ rfl (.tmp 62) (.tmp 64) rfl w.heap.size gl off cl x y z rfl (Q3'.alloc _) _ 1 (bits .xor .u32 ((k + r8 x) % 4294967296) (j : Int)) rfl (cell_new1 _ _) (alloc_le _ (Nat.le_trans (alloc_le _ sz) hg3.size)) ?_; intro g5 o5 c5 w5 Q5 hg5 hor5)
            | (go_at_call 41; have mk' := mk; refine (l9Turn29_any k _).mono ?_; rintro e w4 ⟨rfl, rfl⟩)
            | (go_at_call 41; refine (l9Turn8_any x _).mono ?_; rintro e w4 ⟨rfl, rfl⟩; have mk : True := trivial))
          have B3 : Below w.heap.size w w4 := B1.trans (below_grown hg3 (by simp; omega) (fun x hx => by have e : go = x := Option.some.inj hx; omega))
          have s4 := hg3.size
          simp only [World.size_alloc] at s4
          have hg'lt := World.ownsRow.lt O3 g' rfl
          have hor3' : g' = go ∨ g' = wr.heap.size + 1 := by
            rcases hor3 with e | e
            · exact .inl (Option.some.inj e).symm
            · exact .inr (by rw [e, World.size_alloc])
          have hne' : g' ≠ gl := by omega
          have B5 : Below w.heap.size w w5 := (B3.alloc B3.size _).trans (below_grown hg5 (by simp; omega) (fun x hx => by have e : gl = x := Option.some.inj hx; have := HQ.out.lo; omega))
          have s5 := hg5.size
          simp only [World.size_alloc] at s5 hor5
          have hl1 : (l ++ [k]).length = j + 1 := by rw [List.length_append, HLn.out]; rfl
          rw [hl1] at O3
          have O5 := OwnU.same O3 (w' := w5) ((hg5.block g' (by simp; omega) (fun e => hne' (Option.some.inj e))).trans (heap_alloc_old _ _ (by omega)))
          rw [more_eq] at Q5
          refine ⟨⟨j + 1, g', c', g5, o5, c5, by omega, rfl, ?_, rfl, ?_, ?_, ?_, by omega, B5⟩, by simp [intOf]; omega⟩
          · rw [K1.out, more_eq]; rfl
          · rw [HLn.out]
          · rw [K2.out]; exact O5
          · rw [K1.out]; exact Q5
        · obtain rfl : j = 27 := by omega
          go_wp2
          go_ret
          exact ⟨go, co, rfl, O, hB⟩
end Go.Proofs.YtbopcgokmgifhaaDoor
