/- KernelNew of the model and of the program. -/
import Derived.Test.YtimacbpfnkephaaZB
import Derived.Test.YtimacbpfnkephaaGA
import Derived.Test.YtimacbpfnkephaaZG
namespace Go.Proofs.Ytimacbpfnkephaa
open Go Go.RowKit Go.Deep Go.Maps
open Go.WideShapes (add_plain)

theorem grown_set {a b : World} {P : Nat} (h : a.grownBy b (some P)) (i : Nat) (v : Value) : a.grownBy (b.setCell ⟨P, i, none⟩ v) (some P) :=
  ⟨h.os, h.tape, h.output, by rw [nblk_setCell]; exact h.size, fun j hj hne => (blk_setCell_other _ _ _ _ (by dsimp only; intro e; exact hne (by rw [e]))).trans (h.block j hj hne)⟩
theorem grown_refl (a : World) (P : Nat) : a.grownBy a (some P) := ⟨rfl, rfl, rfl, Nat.le_refl _, fun _ _ _ => rfl⟩
def cell7 (F : Nat → Nat → Int) (j : Nat) : Value := match j % 7 with
  | 0 => .int .i64 (F (j / 7) 0)
  | 1 => .int .i64 (F (j / 7) 1)
  | 2 => .slice none 0 0
  | 3 => .int .i64 (F (j / 7) 2)
  | 4 => .slice none 0 0
  | 5 => .slice none 0 0
  | _ => .int .i64 (F (j / 7) 3)

theorem cell7_0 (F : Nat → Nat → Int) (i : Nat) : cell7 F (i * 7) = .int .i64 (F i 0) := by
  have h1 : i * 7 % 7 = 0 := by omega
  have h2 : i * 7 / 7 = i := by omega
  simp only [cell7, h1, h2]
theorem cell7_1 (F : Nat → Nat → Int) (i : Nat) : cell7 F (i * 7 + 1) = .int .i64 (F i 1) := by
  have h1 : (i * 7 + 1) % 7 = 1 := by omega
  have h2 : (i * 7 + 1) / 7 = i := by omega
  simp only [cell7, h1, h2]
theorem cell7_2 (F : Nat → Nat → Int) (i : Nat) : cell7 F (i * 7 + 2) = .slice none 0 0 := by
  have h1 : (i * 7 + 2) % 7 = 2 := by omega
  simp only [cell7, h1]
theorem cell7_3 (F : Nat → Nat → Int) (i : Nat) : cell7 F (i * 7 + 3) = .int .i64 (F i 2) := by
  have h1 : (i * 7 + 3) % 7 = 3 := by omega
  have h2 : (i * 7 + 3) / 7 = i := by omega
  simp only [cell7, h1, h2]
theorem cell7_4 (F : Nat → Nat → Int) (i : Nat) : cell7 F (i * 7 + 4) = .slice none 0 0 := by
  have h1 : (i * 7 + 4) % 7 = 4 := by omega
  simp only [cell7, h1]
theorem cell7_5 (F : Nat → Nat → Int) (i : Nat) : cell7 F (i * 7 + 5) = .slice none 0 0 := by
  have h1 : (i * 7 + 5) % 7 = 5 := by omega
  simp only [cell7, h1]
theorem cell7_6 (F : Nat → Nat → Int) (i : Nat) : cell7 F (i * 7 + 6) = .int .i64 (F i 3) := by
  have h1 : (i * 7 + 6) % 7 = 6 := by omega
  have h2 : (i * 7 + 6) / 7 = i := by omega
  simp only [cell7, h1, h2]
theorem cell7_congr {F G : Nat → Nat → Int} {j : Nat} (h : ∀ k, F (j / 7) k = G (j / 7) k) : cell7 F j = cell7 G j := by
  unfold cell7
  rw [h 0, h 1, h 2, h 3]

/-- n such threads lie from the beginning of block b -/
def Thr (w : World) (a : Option Addr) (b n : Nat) (F : Nat → Nat → Int) : Prop := 0 < n → a = some ⟨b, 0, none⟩ ∧ ∃ m C, n * 7 ≤ m ∧ w.rowIs b 41 m C ∧ ∀ j, j < n * 7 → C j = cell7 F j

theorem Thr.below {w w' : World} {a : Option Addr} {b n : Nat} {F : Nat → Nat → Int} (h : Thr w a b n F) (hb : Below w.heap.size w w') : Thr w' a b n F := fun h0 => by
  obtain ⟨e, m, C, hm, hr, hc⟩ := h h0
  exact ⟨e, m, C, hm, hr.of_block (hb.block b hr.lt), hc⟩
theorem Thr.grown {w w' : World} {a : Option Addr} {b n : Nat} {F : Nat → Nat → Int} {row : Option Nat} (h : Thr w a b n F) (hg : w.grownBy w' row) (hne : some b ≠ row) : Thr w' a b n F := fun h0 => by
  obtain ⟨e, m, C, hm, hr, hc⟩ := h h0
  exact ⟨e, m, C, hm, hr.of_block (hg.block b hr.lt hne), hc⟩
theorem Thr.lt {w : World} {a : Option Addr} {b n : Nat} {F : Nat → Nat → Int} (h : Thr w a b n F) (h0 : 0 < n) : b < w.heap.size := by
  obtain ⟨_, m, C, _, hr, _⟩ := h h0
  exact hr.lt
/-- the seven cells of thread i -/
theorem Thr.cells {w : World} {a : Option Addr} {b n : Nat} {F : Nat → Nat → Int} (h : Thr w a b n F) {i : Nat} (hi : i < n) :
    w.cell? ⟨b, i * 7, none⟩ = some (.int .i64 (F i 0)) ∧ w.cell? ⟨b, i * 7 + 1, none⟩ = some (.int .i64 (F i 1)) ∧ w.cell? ⟨b, i * 7 + 2, none⟩ = some (.slice none 0 0) ∧ w.cell? ⟨b, i * 7 + 3, none⟩ = some (.int .i64 (F i 2)) ∧ w.cell? ⟨b, i * 7 + 4, none⟩ = some (.slice none 0 0) ∧ w.cell? ⟨b, i * 7 + 5, none⟩ = some (.slice none 0 0) ∧ w.cell? ⟨b, i * 7 + 6, none⟩ = some (.int .i64 (F i 3)) := by
  obtain ⟨e, m, C, hm, hr, hc⟩ := h (by omega)
  have g : ∀ j, j < n * 7 → w.cell? ⟨b, j, none⟩ = some (cell7 F j) := fun j hj => by rw [hr.cell (by omega), hc j hj]
  refine ⟨?_, ?_, ?_, ?_, ?_, ?_, ?_⟩
  · rw [g _ (by omega), cell7_0]
  · rw [g _ (by omega), cell7_1]
  · rw [g _ (by omega), cell7_2]
  · rw [g _ (by omega), cell7_3]
  · rw [g _ (by omega), cell7_4]
  · rw [g _ (by omega), cell7_5]
  · rw [g _ (by omega), cell7_6]

def Obj1 (w : World) (a : Option Addr) (b c : Nat) (x0 x1 x2 x3 : Int) (d : ByteArray) (x4 : Int) : Prop := 0 < c → a = some ⟨b, 0, none⟩ ∧ Blk w b (.cells #[.int .i64 x0, .int .i64 x1, .int .i64 x2, .int .i64 x3, .slice none 0 0, .string d, .slice none 0 0, .slice none 0 0, .int .i64 x4, .slice none 0 0] 37)
theorem Obj1.below {w w' : World} {a : Option Addr} {b c : Nat} {x0 x1 x2 x3 : Int} {d : ByteArray} {x4 : Int} (h : Obj1 w a b c x0 x1 x2 x3 d x4) (hb : Below w.heap.size w w') : Obj1 w' a b c x0 x1 x2 x3 d x4 := fun h0 => ⟨(h h0).1, (h h0).2.below hb⟩
theorem Blk.frozenT {W : World} {P t : Nat} {cs : Array Value} (h : Blk W P (.cells cs t)) (i : Nat) : W.frozen? ⟨P, i, none⟩ = false := by
  unfold Blk at h
  simp [World.frozen?, h]
/-- the threads of a new kernel -/
def newF (i q : Nat) : Int := match q with
  | 0 => i + 1
  | 1 => 1
  | 2 => 2
  | _ => 0
def thrCells (F : Nat → Nat → Int) (n : Nat) : List Value := (List.range (n * 7)).map (cell7 F)
theorem thrCells_succ (F : Nat → Nat → Int) (n : Nat) : thrCells F (n + 1) = thrCells F n ++ [.int .i64 (F n 0), .int .i64 (F n 1), .slice none 0 0, .int .i64 (F n 2), .slice none 0 0, .slice none 0 0, .int .i64 (F n 3)] := by
  have e : (n + 1) * 7 = n * 7 + 1 + 1 + 1 + 1 + 1 + 1 + 1 := by omega
  unfold thrCells
  rw [e]
  simp only [List.range_succ, List.map_append, List.map_cons, List.map_nil, List.append_assoc, List.cons_append, List.nil_append]
  rw [cell7_0, cell7_1, cell7_2, cell7_3, cell7_4, cell7_5, cell7_6]

def OwnT (w : World) (B : Nat) (v : Value) (n : Nat) (F : Nat → Nat → Int) : Prop := w.ownsRow B 41 7 v n (thrCells F n)
theorem OwnT.nil (w : World) (B : Nat) (F : Nat → Nat → Int) : OwnT w B (.slice none 0 0) 0 F := World.ownsRow_nil _ _ _ _
theorem OwnT.alloc {w : World} {B n : Nat} {v : Value} {F : Nat → Nat → Int} (h : OwnT w B v n F) (o : Obj) : OwnT (w.alloc o) B v n F := World.ownsRow.alloc h o
theorem OwnT.set {w : World} {B n : Nat} {v : Value} {F : Nat → Nat → Int} (h : OwnT w B v n F) {P : Nat} (hP : P < B) (i : Nat) (x : Value) : OwnT (w.setCell ⟨P, i, none⟩ x) B v n F :=
  World.ownsRow.kept h (grown_set (grown_refl w P) i x) (Or.inr (fun e => by have := (World.ownsRow.lt h _ e).1; omega))
theorem OwnT.thr {w : World} {B n k : Nat} {a : Option Addr} {F : Nat → Nat → Int} (h : OwnT w B (.slice a n k) n F) : ∃ b, Thr w a b n F ∧ B ≤ b := by
  rcases h.2 with ⟨_, h0⟩ | ⟨g, cap, cur, hv, hbg, hg, hle, _, hsz, _⟩
  · exact ⟨B, fun h => by omega, Nat.le_refl _⟩
  · simp only [Value.slice.injEq] at hv
    have hrow : w.rowIs g 41 (cap * 7) (fun i => cur.getD i undef) := ⟨cur, hg, hsz, fun i hi => by have : i < cur.size := by omega
                                                                                                    simp [this]⟩
    obtain ⟨rfl, _, _⟩ := hv
    refine ⟨g, fun _ => ⟨rfl, cap * 7, _, by omega, hrow, fun j hj => ?_⟩, hbg⟩
    have hc := World.ownsRow.cells h (g := g) rfl j (cell7 F j) (by simp [thrCells, hj])
    rw [add_plain] at hc
    have hr := hrow.cell (i := j) (by omega)
    rw [Nat.zero_add] at hc
    rw [hc] at hr
    exact (Option.some.inj hr).symm

theorem one_thread {w : World} {b : Nat} {y0 y1 y2 y3 y4 y5 y6 : Value} (h : Blk w b (.cells #[y0, y1, y2, y3, y4, y5, y6] 41)) : LiesC w (some ⟨b, 0, none⟩) 1 [y0, y1, y2, y3, y4, y5, y6] := fun _ => by
  refine ⟨b, 0, rfl, h.lt, fun j u hu => ?_⟩
  unfold Blk at h
  have hj : j < 7 := by
    by_cases e : j < 7
    · exact e
    · rw [List.getElem?_eq_none (by simp; omega)] at hu; simp at hu
  simp only [World.cell?, h]
  have : j = 0 ∨ j = 1 ∨ j = 2 ∨ j = 3 ∨ j = 4 ∨ j = 5 ∨ j = 6 := by omega
  rcases this with rfl | rfl | rfl | rfl | rfl | rfl | rfl <;> simpa using hu

theorem wpList_append_thr {ops : Array Oper} {rest : List Oper} {o : Oper} {a : Act} {Q : Exit → Act → World → Prop} (w : World) (hgd : o.guard = none) (s x : Operand)
    (ho : o.op = .call { callee := .builtin .append, args := #[s, x], argTypes := #[25, 25] })
    (B : Nat) (v : Value) (n : Nat) (F : Nat → Nat → Int) (hs : a.eval s = v) (hown : OwnT w B v n F) (b c : Nat) (hx : a.eval x = .slice (some ⟨b, 0, none⟩) 1 c)
    (hc : Blk w b (.cells #[.int .i64 (F n 0), .int .i64 (F n 1), .slice none 0 0, .int .i64 (F n 2), .slice none 0 0, .slice none 0 0, .int .i64 (F n 3)] 41))
    (hn : n ≤ 1000) (hB : B ≤ w.heap.size)
    (h : ∀ a' c' w', OwnT w' B (.slice a' (n + 1) c') (n + 1) F → w.grownBy w' v.ownBlock → wpList Try.prog ops Q rest (a.put o.dst (.slice a' (n + 1) c')) w') : wpList Try.prog ops Q (o :: rest) a w := by
  refine wpList_plain hgd fun _ hK => wp_append_gen Try.underlying25 Try.info41 rfl (by omega) w s x ho B v n _ hs hown (some ⟨b, 0, none⟩) 1 c _ hx (by rfl) (one_thread hc) (fun u hu => by simp at hu; rcases hu with rfl | rfl | rfl | rfl | rfl | rfl | rfl <;> rfl) (by omega) (by omega) hB fun a' c' w' h2 h3 _ => hK _ _ ?_
  rw [← thrCells_succ] at h2
  exact h a' c' w' h2 h3

theorem Blk.set0 {W : World} {P t : Nat} {x y : Value} (h : Blk W P (.cells #[x, y] t)) (v : Value) : Blk (W.setCell ⟨P, 0, none⟩ v) P (.cells #[v, y] t) := by
  unfold Blk at *
  simp [World.setCell, Array.getElem?_modify, h]

def newN (t : Int) : Nat := if 1 ≤ t ∧ t ≤ 9 then t.toNat else 0
def newC (t : Int) : Nat := if 1 ≤ t ∧ t ≤ 9 then 1 else 0
def newB (t : Int) : Bool := decide (1 ≤ t) && decide (t ≤ 9)

/-- what a new kernel is -/
def KPost (t : Int) (w : World) (e : Ending) (w' : World) : Prop :=
  ∃ ta tb tk oa ob ck, e = .returned (.tuple #[.agg #[.slice ta (newN t) tk, .slice oa (newC t) ck], .bool (newB t)]) ∧ Thr w' ta tb (newN t) newF ∧ Obj1 w' oa ob (newC t) 1 3 0 1 ⟨#[]⟩ 0 ∧ w.heap.size ≤ tb ∧ w.heap.size ≤ ob ∧ tb ≠ ob ∧ Below w.heap.size w w' ∧ newC t ≤ ck

theorem KPost.no {t : Int} (ht : ¬ (1 ≤ t ∧ t ≤ 9)) {w w' : World} (hb : Below w.heap.size w w') : KPost t w (.returned (.tuple #[.agg #[.slice none 0 0, .slice none 0 0], .bool false])) w' := by
  have e1 : newN t = 0 := if_neg ht
  have e2 : newC t = 0 := if_neg ht
  have e3 : newB t = false := by simp [newB]; omega
  unfold KPost
  rw [e1, e2, e3]
  exact ⟨none, w.heap.size, 0, none, w.heap.size + 1, 0, rfl, fun h => by omega, fun h => by omega, by omega, by omega, by omega, hb, by omega⟩
theorem KPost.yes {t : Int} (ht : 1 ≤ t ∧ t ≤ 9) {n : Nat} (hn : t = n) {w w' : World} {ta : Option Addr} {B tk ob : Nat} (ho : OwnT w' B (.slice ta n tk) n newF) (hB : w.heap.size ≤ B) (hob : ob < B) (hob' : w.heap.size ≤ ob) (hO : Blk w' ob (.cells #[.int .i64 1, .int .i64 3, .int .i64 0, .int .i64 1, .slice none 0 0, .string ⟨#[]⟩, .slice none 0 0, .slice none 0 0, .int .i64 0, .slice none 0 0] 37)) (hb : Below w.heap.size w w') :
    KPost t w (.returned (.tuple #[.agg #[.slice ta n tk, .slice (some ⟨ob, 0, none⟩) 1 1], .bool true])) w' := by
  have e1 : newN t = n := by unfold newN; rw [if_pos ht]; omega
  have e2 : newC t = 1 := if_pos ht
  have e3 : newB t = true := by simp [newB]; omega
  obtain ⟨b, hT, hb'⟩ := ho.thr
  unfold KPost
  rw [e1, e2, e3]
  exact ⟨ta, b, tk, some ⟨ob, 0, none⟩, ob, 1, rfl, hT, fun _ => ⟨rfl, hO⟩, by omega, by omega, by omega, hb, Nat.le_refl _⟩


set_option maxRecDepth 100000 in
set_option maxHeartbeats 4000000 in
theorem specNew_any (t : Int) (w : World) : Calls Try.prog 7 #[.int .i64 t] w (KPost t w) := by
  have L0 := (Below.refl _ w).alloc (Nat.le_refl _) (.cells #[.slice none 0 0, .slice none 0 0] 28)
  have Z0 := Blk.new w (.cells #[.slice none 0 0, .slice none 0 0] 28)
  by_cases ht : 1 ≤ t ∧ t ≤ 9
  rotate_left
  · obtain ⟨z1, z2⟩ := Z0.two
    have f1 := Z0.frozenT 0
    have f2 := Z0.frozenT 1
    have hlo : t < 1 ∨ 9 < t := by omega
    have hin : inB t 1 9 = false := by simp [inB]; omega
    go_enter Try.func7, Try.ntmps7
    go_wp2_with (go_at_call 14; refine (l1In_any _ _ _ _).mono ?_; rintro e w' ⟨rfl, rfl⟩)
    exact bodyPost_ret (v := .tuple #[.agg #[.slice none 0 0, .slice none 0 0], .bool false]) (by simp [results, Try.results7, go_sem, z1, z2]) rfl (KPost.no ht L0)
  · obtain ⟨n, rfl⟩ := Int.eq_ofNat_of_zero_le (show 0 ≤ t by omega)
    have hn1 : 1 ≤ n := by omega
    have hn9 : n ≤ 9 := by omega
    have hin : inB (n : Int) 1 9 = true := inB_iff.2 ht
    have Z1 := (Z0.alloc (.cells #[.int .i64 1, .int .i64 3, .int .i64 0, .int .i64 1, .slice none 0 0, .string ⟨#[]⟩, .slice none 0 0, .slice none 0 0, .int .i64 0, .slice none 0 0] 37)).alloc (.cells #[.slice none 0 0, .slice (some ⟨w.heap.size + 1, 0, none⟩) 1 1] 28)
    have s1 : (w.alloc (.cells #[.slice none 0 0, .slice none 0 0] 28)).heap.size = w.heap.size + 1 := by simp
    have O1 := (Blk.new (w.alloc (.cells #[.slice none 0 0, .slice none 0 0] 28)) (.cells #[.int .i64 1, .int .i64 3, .int .i64 0, .int .i64 1, .slice none 0 0, .string ⟨#[]⟩, .slice none 0 0, .slice none 0 0, .int .i64 0, .slice none 0 0] 37)).alloc (.cells #[.slice none 0 0, .slice (some ⟨w.heap.size + 1, 0, none⟩) 1 1] 28)
    rw [s1] at O1
    have s2 : ((w.alloc (.cells #[.slice none 0 0, .slice none 0 0] 28)).alloc (.cells #[.int .i64 1, .int .i64 3, .int .i64 0, .int .i64 1, .slice none 0 0, .string ⟨#[]⟩, .slice none 0 0, .slice none 0 0, .int .i64 0, .slice none 0 0] 37)).heap.size = w.heap.size + 1 + 1 := by simp
    have P1 := Blk.new ((w.alloc (.cells #[.slice none 0 0, .slice none 0 0] 28)).alloc (.cells #[.int .i64 1, .int .i64 3, .int .i64 0, .int .i64 1, .slice none 0 0, .string ⟨#[]⟩, .slice none 0 0, .slice none 0 0, .int .i64 0, .slice none 0 0] 37)) (.cells #[.slice none 0 0, .slice (some ⟨w.heap.size + 1, 0, none⟩) 1 1] 28)
    rw [s2] at P1
    have L1 := (L0.alloc L0.size (.cells #[.int .i64 1, .int .i64 3, .int .i64 0, .int .i64 1, .slice none 0 0, .string ⟨#[]⟩, .slice none 0 0, .slice none 0 0, .int .i64 0, .slice none 0 0] 37)).alloc (Nat.le_trans L0.size (by simp)) (.cells #[.slice none 0 0, .slice (some ⟨w.heap.size + 1, 0, none⟩) 1 1] 28)
    clear L0 Z0 s1 s2
    go_enter Try.func7, Try.ntmps7
    go_wp2_with (go_at_call 14; refine (l1In_any _ _ _ _).mono ?_; rintro e w' ⟨rfl, rfl⟩)
    go_loopw [5] (fun i wr => ∃ (j : Nat) (v : Value), j ≤ n ∧ i = .int .i64 (j + 1) ∧ Blk wr (w.heap.size + 1 + 1) (.cells #[v, .slice (some ⟨w.heap.size + 1, 0, none⟩) 1 1] 28) ∧ OwnT wr (w.heap.size + 1 + 1 + 1) v j newF ∧ Blk wr (w.heap.size + 1) (.cells #[.int .i64 1, .int .i64 3, .int .i64 0, .int .i64 1, .slice none 0 0, .string ⟨#[]⟩, .slice none 0 0, .slice none 0 0, .int .i64 0, .slice none 0 0] 37) ∧ Blk wr w.heap.size (.cells #[.slice none 0 0, .slice none 0 0] 28) ∧ Below w.heap.size w wr) (fun i _ => n + 1 - (intOf i).toNat)
    case atStart => exact ⟨0, _, Nat.zero_le _, rfl, P1, OwnT.nil _ _ _, O1, Z1, L1⟩
    case round =>
      obtain ⟨j, v, hj, rfl, P, O, Q, Z, Lr⟩ := hrel
      clear P1 O1 Z1 L1
      obtain ⟨va, vc, rfl⟩ := ownsRow_shape O
      obtain ⟨p1, p2⟩ := P.two
      have pf := P.frozenT 0
      by_cases hlt : j < n
      · have hji : ((j : Int) + 1 ≤ (n : Int)) := by omega
        have hT : Blk (wr.alloc (.cells #[.int .i64 (j + 1), .int .i64 1, .slice none 0 0, .int .i64 2, .slice none 0 0, .slice none 0 0, .int .i64 0] 41)) wr.heap.size (.cells #[.int .i64 (newF j 0), .int .i64 (newF j 1), .slice none 0 0, .int .i64 (newF j 2), .slice none 0 0, .slice none 0 0, .int .i64 (newF j 3)] 41) := Blk.new wr _
        have HT : Hid (Blk (wr.alloc (.cells #[.int .i64 (j + 1), .int .i64 1, .slice none 0 0, .int .i64 2, .slice none 0 0, .slice none 0 0, .int .i64 0] 41)) wr.heap.size (.cells #[.int .i64 (newF j 0), .int .i64 (newF j 1), .slice none 0 0, .int .i64 (newF j 2), .slice none 0 0, .slice none 0 0, .int .i64 (newF j 3)] 41)) := hT
        clear hT
        have sz : w.heap.size + 1 + 1 + 1 ≤ wr.heap.size := P.lt
        have HN : Hid (∀ x, x ≤ w.heap.size + 1 + 1 → some x ≠ (Value.slice va j vc).ownBlock) := fun x hx e => by have := (World.ownsRow.lt O _ e.symm).1; omega
        have HO : Hid (OwnT wr (w.heap.size + 1 + 1 + 1) (.slice va j vc) j newF) := O
        go_wp2_with (at_builtin; refine wpList_append_thr _ rfl _ _ rfl (w.heap.size + 1 + 1 + 1) _ j newF rfl (HO.out.alloc _) wr.heap.size 1 rfl HT.out (by omega) (by simp; omega) ?_; intro a' c' w' hown' hgrow'; have P' := (P.alloc (.cells #[.int .i64 (j + 1), .int .i64 1, .slice none 0 0, .int .i64 2, .slice none 0 0, .slice none 0 0, .int .i64 0] 41)).grown hgrow' (HN.out _ (by omega)); obtain ⟨q1, q2⟩ := P'.two; have pf' := P'.frozenT 0)
        have Q' := (Q.alloc (.cells #[.int .i64 (j + 1), .int .i64 1, .slice none 0 0, .int .i64 2, .slice none 0 0, .slice none 0 0, .int .i64 0] 41)).grown hgrow' (HN.out _ (by omega))
        have Z' := (Z.alloc (.cells #[.int .i64 (j + 1), .int .i64 1, .slice none 0 0, .int .i64 2, .slice none 0 0, .slice none 0 0, .int .i64 0] 41)).grown hgrow' (HN.out _ (by omega))
        have L' : Below w.heap.size w w' := (Lr.alloc Lr.size _).grown hgrow' (Nat.le_trans Lr.size (by simp)) (fun k hk => by have := (World.ownsRow.lt HO.out k hk).1; omega)
        go_roundw
        case rel =>
          refine ⟨j + 1, .slice a' (j + 1) c', by omega, by go_num, ?_, hown'.set (by omega) _ _, Q'.grown (grown_set (grown_refl w' (w.heap.size + 1 + 1)) 0 _) (by simp), Z'.grown (grown_set (grown_refl w' (w.heap.size + 1 + 1)) 0 _) (by simp; omega), L'.setCell (by dsimp only; omega) _⟩
          exact P'.set0 _
        case measure => simp [intOf]; omega
      · have hji : ¬ ((j : Int) + 1 ≤ (n : Int)) := by omega
        obtain rfl : j = n := by omega
        obtain ⟨z1, z2⟩ := Z.two
        have f1 := Z.frozenT 0
        have f2 := Z.frozenT 1
        go_wp2
        exact bodyPost_ret (v := .tuple #[.agg #[.slice va j vc, .slice (some ⟨w.heap.size + 1, 0, none⟩) 1 1], .bool true]) (by simp [results, Try.results7, go_sem, z1, z2]) rfl (KPost.yes ht rfl (B := w.heap.size + 1 + 1 + 1) ((O.set (by omega) _ _).set (by omega) _ _) (by omega) (by omega) (by omega) ((Q.grown (grown_set (grown_refl wr w.heap.size) 0 _) (by simp)).grown (grown_set (grown_refl _ w.heap.size) 1 _) (by simp)) ((Lr.setCell (Nat.le_refl _) _).setCell (Nat.le_refl _) _))

set_option maxRecDepth 100000 in
set_option maxHeartbeats 4000000 in
theorem implNew_any (t : Int) (w : World) : Calls Try.prog 6 #[.int .i64 t] w (KPost t w) := by
  have L0 := (Below.refl _ w).alloc (Nat.le_refl _) (.cells #[.slice none 0 0, .slice none 0 0] 28)
  have Z0 := Blk.new w (.cells #[.slice none 0 0, .slice none 0 0] 28)
  by_cases ht : 1 ≤ t ∧ t ≤ 9
  rotate_left
  · obtain ⟨z1, z2⟩ := Z0.two
    have f1 := Z0.frozenT 0
    have f2 := Z0.frozenT 1
    have hlo : t < 1 ∨ 9 < t := by omega
    go_enter Try.func6, Try.ntmps6
    rcases hlo with hlo | hlo
    · go_wp2
      exact bodyPost_ret (v := .tuple #[.agg #[.slice none 0 0, .slice none 0 0], .bool false]) (by simp [results, Try.results6, go_sem, z1, z2]) rfl (KPost.no ht L0)
    · go_wp2
      exact bodyPost_ret (v := .tuple #[.agg #[.slice none 0 0, .slice none 0 0], .bool false]) (by simp [results, Try.results6, go_sem, z1, z2]) rfl (KPost.no ht L0)
  · obtain ⟨n, rfl⟩ := Int.eq_ofNat_of_zero_le (show 0 ≤ t by omega)
    have hn1 : 1 ≤ n := by omega
    have hn9 : n ≤ 9 := by omega
    have Z1 := (Z0.alloc (.cells #[.int .i64 1, .int .i64 3, .int .i64 0, .int .i64 1, .slice none 0 0, .string ⟨#[]⟩, .slice none 0 0, .slice none 0 0, .int .i64 0, .slice none 0 0] 37)).alloc (.cells #[.slice none 0 0, .slice (some ⟨w.heap.size + 1, 0, none⟩) 1 1] 28)
    have s1 : (w.alloc (.cells #[.slice none 0 0, .slice none 0 0] 28)).heap.size = w.heap.size + 1 := by simp
    have O1 := (Blk.new (w.alloc (.cells #[.slice none 0 0, .slice none 0 0] 28)) (.cells #[.int .i64 1, .int .i64 3, .int .i64 0, .int .i64 1, .slice none 0 0, .string ⟨#[]⟩, .slice none 0 0, .slice none 0 0, .int .i64 0, .slice none 0 0] 37)).alloc (.cells #[.slice none 0 0, .slice (some ⟨w.heap.size + 1, 0, none⟩) 1 1] 28)
    rw [s1] at O1
    have s2 : ((w.alloc (.cells #[.slice none 0 0, .slice none 0 0] 28)).alloc (.cells #[.int .i64 1, .int .i64 3, .int .i64 0, .int .i64 1, .slice none 0 0, .string ⟨#[]⟩, .slice none 0 0, .slice none 0 0, .int .i64 0, .slice none 0 0] 37)).heap.size = w.heap.size + 1 + 1 := by simp
    have P1 := Blk.new ((w.alloc (.cells #[.slice none 0 0, .slice none 0 0] 28)).alloc (.cells #[.int .i64 1, .int .i64 3, .int .i64 0, .int .i64 1, .slice none 0 0, .string ⟨#[]⟩, .slice none 0 0, .slice none 0 0, .int .i64 0, .slice none 0 0] 37)) (.cells #[.slice none 0 0, .slice (some ⟨w.heap.size + 1, 0, none⟩) 1 1] 28)
    rw [s2] at P1
    have L1 := (L0.alloc L0.size (.cells #[.int .i64 1, .int .i64 3, .int .i64 0, .int .i64 1, .slice none 0 0, .string ⟨#[]⟩, .slice none 0 0, .slice none 0 0, .int .i64 0, .slice none 0 0] 37)).alloc (Nat.le_trans L0.size (by simp)) (.cells #[.slice none 0 0, .slice (some ⟨w.heap.size + 1, 0, none⟩) 1 1] 28)
    clear L0 Z0 s1 s2
    go_enter Try.func6, Try.ntmps6
    go_wp2_with fail
    go_loopw [5] (fun i wr => ∃ (j : Nat) (v : Value), j ≤ n ∧ i = .int .i64 (j + 1) ∧ Blk wr (w.heap.size + 1 + 1) (.cells #[v, .slice (some ⟨w.heap.size + 1, 0, none⟩) 1 1] 28) ∧ OwnT wr (w.heap.size + 1 + 1 + 1) v j newF ∧ Blk wr (w.heap.size + 1) (.cells #[.int .i64 1, .int .i64 3, .int .i64 0, .int .i64 1, .slice none 0 0, .string ⟨#[]⟩, .slice none 0 0, .slice none 0 0, .int .i64 0, .slice none 0 0] 37) ∧ Blk wr w.heap.size (.cells #[.slice none 0 0, .slice none 0 0] 28) ∧ Below w.heap.size w wr) (fun i _ => n + 1 - (intOf i).toNat)
    case atStart => exact ⟨0, _, Nat.zero_le _, rfl, P1, OwnT.nil _ _ _, O1, Z1, L1⟩
    case round =>
      obtain ⟨j, v, hj, rfl, P, O, Q, Z, Lr⟩ := hrel
      clear P1 O1 Z1 L1
      obtain ⟨va, vc, rfl⟩ := ownsRow_shape O
      obtain ⟨p1, p2⟩ := P.two
      have pf := P.frozenT 0
      by_cases hlt : j < n
      · have hji : ((j : Int) + 1 ≤ (n : Int)) := by omega
        have hT : Blk (wr.alloc (.cells #[.int .i64 (j + 1), .int .i64 1, .slice none 0 0, .int .i64 2, .slice none 0 0, .slice none 0 0, .int .i64 0] 41)) wr.heap.size (.cells #[.int .i64 (newF j 0), .int .i64 (newF j 1), .slice none 0 0, .int .i64 (newF j 2), .slice none 0 0, .slice none 0 0, .int .i64 (newF j 3)] 41) := Blk.new wr _
        have HT : Hid (Blk (wr.alloc (.cells #[.int .i64 (j + 1), .int .i64 1, .slice none 0 0, .int .i64 2, .slice none 0 0, .slice none 0 0, .int .i64 0] 41)) wr.heap.size (.cells #[.int .i64 (newF j 0), .int .i64 (newF j 1), .slice none 0 0, .int .i64 (newF j 2), .slice none 0 0, .slice none 0 0, .int .i64 (newF j 3)] 41)) := hT
        clear hT
        have sz : w.heap.size + 1 + 1 + 1 ≤ wr.heap.size := P.lt
        have HN : Hid (∀ x, x ≤ w.heap.size + 1 + 1 → some x ≠ (Value.slice va j vc).ownBlock) := fun x hx e => by have := (World.ownsRow.lt O _ e.symm).1; omega
        have HO : Hid (OwnT wr (w.heap.size + 1 + 1 + 1) (.slice va j vc) j newF) := O
        go_wp2_with (at_builtin; refine wpList_append_thr _ rfl _ _ rfl (w.heap.size + 1 + 1 + 1) _ j newF rfl (HO.out.alloc _) wr.heap.size 1 rfl HT.out (by omega) (by simp; omega) ?_; intro a' c' w' hown' hgrow'; have P' := (P.alloc (.cells #[.int .i64 (j + 1), .int .i64 1, .slice none 0 0, .int .i64 2, .slice none 0 0, .slice none 0 0, .int .i64 0] 41)).grown hgrow' (HN.out _ (by omega)); obtain ⟨q1, q2⟩ := P'.two; have pf' := P'.frozenT 0)
        have Q' := (Q.alloc (.cells #[.int .i64 (j + 1), .int .i64 1, .slice none 0 0, .int .i64 2, .slice none 0 0, .slice none 0 0, .int .i64 0] 41)).grown hgrow' (HN.out _ (by omega))
        have Z' := (Z.alloc (.cells #[.int .i64 (j + 1), .int .i64 1, .slice none 0 0, .int .i64 2, .slice none 0 0, .slice none 0 0, .int .i64 0] 41)).grown hgrow' (HN.out _ (by omega))
        have L' : Below w.heap.size w w' := (Lr.alloc Lr.size _).grown hgrow' (Nat.le_trans Lr.size (by simp)) (fun k hk => by have := (World.ownsRow.lt HO.out k hk).1; omega)
        go_roundw
        case rel =>
          refine ⟨j + 1, .slice a' (j + 1) c', by omega, by go_num, ?_, hown'.set (by omega) _ _, Q'.grown (grown_set (grown_refl w' (w.heap.size + 1 + 1)) 0 _) (by simp), Z'.grown (grown_set (grown_refl w' (w.heap.size + 1 + 1)) 0 _) (by simp; omega), L'.setCell (by dsimp only; omega) _⟩
          exact P'.set0 _
        case measure => simp [intOf]; omega
      · have hji : ¬ ((j : Int) + 1 ≤ (n : Int)) := by omega
        obtain rfl : j = n := by omega
        obtain ⟨z1, z2⟩ := Z.two
        have f1 := Z.frozenT 0
        have f2 := Z.frozenT 1
        go_wp2
        exact bodyPost_ret (v := .tuple #[.agg #[.slice va j vc, .slice (some ⟨w.heap.size + 1, 0, none⟩) 1 1], .bool true]) (by simp [results, Try.results6, go_sem, z1, z2]) rfl (KPost.yes ht rfl (B := w.heap.size + 1 + 1 + 1) ((O.set (by omega) _ _).set (by omega) _ _) (by omega) (by omega) (by omega) ((Q.grown (grown_set (grown_refl wr w.heap.size) 0 _) (by simp)).grown (grown_set (grown_refl _ w.heap.size) 1 _) (by simp)) ((Lr.setCell (Nat.le_refl _) _).setCell (Nat.le_refl _) _))
end Go.Proofs.Ytimacbpfnkephaa
