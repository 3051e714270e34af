/- Copies of lists that the program makes: copied, of categories, numbers and texts. -/
import Derived.Test.YtimacbpfnkephaaZD
import Derived.Test.YtimacbpfnkephaaGA
import Derived.Test.YtimacbpfnkephaaZG
namespace Go.Proofs.Ytimacbpfnkephaa
open Go Go.RowKit Go.Deep Go.Maps

section
variable {t e size bytes : Nat} {z : Value} (hT : Try.prog.underlying t = some (.slice e)) (hI : (Try.prog.info? e).map (fun i => (i.zero, i.size, i.bytes)) = some (some z, size, bytes)) (hzs : z.cells.size = size) (hsz : 0 < size)
include hT hI hzs hsz
theorem wpList_append_any {ops : Array Oper} {rest : List Oper} {o : Oper} {a : Act} {Q : Exit → Act → World → Prop} (w : World) (hgd : o.guard = none) (s x : Operand)
    (ho : o.op = .call { callee := .builtin .append, args := #[s, x], argTypes := #[t, t] })
    (B : Nat) (v : Value) (n : Nat) (cs : List Value) (hs : a.eval s = v) (hown : w.ownsRow B e size v n cs) (ad : Option Addr) (m c : Nat) (cs' : List Value) (hx : a.eval x = .slice ad m c) (hl : cs'.length = m * size) (hc : LiesC w ad m cs') (h1 : ∀ u ∈ cs', u.oneCell' = true)
    (hm : n + m ≤ 4194304) (hby : (n + m) * bytes ≤ 140737488355328) (hB : B ≤ w.heap.size)
    (h : ∀ a' c' w', w'.ownsRow B e size (.slice a' (n + m) c') (n + m) (cs ++ cs') → w.grownBy w' v.ownBlock → wpList Try.prog ops Q rest (a.put o.dst (.slice a' (n + m) c')) w') : wpList Try.prog ops Q (o :: rest) a w :=
  wpList_plain hgd fun _ hK => wp_append_gen hT hI hzs hsz w s x ho B v n cs hs hown ad m c cs' hx hl hc h1 hm hby hB fun a' c' w' h2 h3 _ => hK _ _ (h a' c' w' h2 h3)
end

/-- a list that a call made: it lies there, and in new memory -/
def CatL.new (B : Nat) (w : World) (c : CatL) : Prop := c.at w ∧ (0 < c.n → ∃ b m F, c.a = some ⟨b, 0, none⟩ ∧ B ≤ b ∧ c.n * 2 ≤ m ∧ w.rowIs b 80 m F)
def IntL.new (B : Nat) (w : World) (c : IntL) : Prop := c.at w ∧ (0 < c.n → ∃ b m F, c.a = some ⟨b, 0, none⟩ ∧ B ≤ b ∧ c.n ≤ m ∧ w.rowIs b 2 m F)
def StrL.new (B : Nat) (w : World) (c : StrL) : Prop := c.at w ∧ (0 < c.n → ∃ b m F, c.a = some ⟨b, 0, none⟩ ∧ B ≤ b ∧ c.n ≤ m ∧ w.rowIs b 9 m F)
theorem CatL.new.below {B : Nat} {w w' : World} {c : CatL} (h : c.new B w) (hb : Below w.heap.size w w') : c.new B w' := ⟨h.1.below hb, fun hn => by
  obtain ⟨b, m, F, e, h1, h2, h3⟩ := h.2 hn
  exact ⟨b, m, F, e, h1, h2, rowUp h3 hb⟩⟩
theorem IntL.new.below {B : Nat} {w w' : World} {c : IntL} (h : c.new B w) (hb : Below w.heap.size w w') : c.new B w' := ⟨h.1.below hb, fun hn => by
  obtain ⟨b, m, F, e, h1, h2, h3⟩ := h.2 hn
  exact ⟨b, m, F, e, h1, h2, rowUp h3 hb⟩⟩
theorem StrL.new.below {B : Nat} {w w' : World} {c : StrL} (h : c.new B w) (hb : Below w.heap.size w w') : c.new B w' := ⟨h.1.below hb, fun hn => by
  obtain ⟨b, m, F, e, h1, h2, h3⟩ := h.2 hn
  exact ⟨b, m, F, e, h1, h2, rowUp h3 hb⟩⟩
theorem CatL.new.low {B B' : Nat} {w : World} {c : CatL} (h : c.new B w) (hB : B' ≤ B) : c.new B' w := ⟨h.1, fun hn => by
  obtain ⟨b, m, F, e, h1, h2, h3⟩ := h.2 hn
  exact ⟨b, m, F, e, by omega, h2, h3⟩⟩
theorem IntL.new.low {B B' : Nat} {w : World} {c : IntL} (h : c.new B w) (hB : B' ≤ B) : c.new B' w := ⟨h.1, fun hn => by
  obtain ⟨b, m, F, e, h1, h2, h3⟩ := h.2 hn
  exact ⟨b, m, F, e, by omega, h2, h3⟩⟩
theorem StrL.new.low {B B' : Nat} {w : World} {c : StrL} (h : c.new B w) (hB : B' ≤ B) : c.new B' w := ⟨h.1, fun hn => by
  obtain ⟨b, m, F, e, h1, h2, h3⟩ := h.2 hn
  exact ⟨b, m, F, e, by omega, h2, h3⟩⟩
theorem row_of_own {w : World} {B e size n c : Nat} {a : Option Addr} {cs : List Value} (h : w.ownsRow B e size (.slice a n c) n cs) (hn : 0 < n) : ∃ b m F, a = some ⟨b, 0, none⟩ ∧ B ≤ b ∧ n * size ≤ m ∧ w.rowIs b e m F := by
  rcases h.2 with ⟨_, h0⟩ | ⟨g, cap, cur, hv, h1, h2, h3, h4, h5, h6⟩
  · omega
  · simp only [Value.slice.injEq] at hv
    obtain ⟨rfl, _, rfl⟩ := hv
    exact ⟨g, cur.size, fun i => cur[i]?.getD undef, rfl, h1, by rw [h5]; exact Nat.mul_le_mul_right _ h3, ⟨cur, h2, rfl, fun i hi => by simp [hi]⟩⟩
theorem cats_lies {w : World} {a : Option Addr} {n : Nat} {f g : Nat → Int} (h : CatsAt w a n f g) : LiesC w a n (catCells f g n) := fun hn => by
  obtain ⟨b, off, e, hlt, hc⟩ := h hn
  refine ⟨b, off, e, hlt, fun j u hu => ?_⟩
  by_cases hj : j < n * 2
  · rw [catCells_get _ _ _ _ hj] at hu
    have hu' := Option.some.inj hu
    rw [← hu']
    obtain ⟨c0, c1⟩ := hc (j / 2) (by omega)
    unfold pairCell
    by_cases e2 : j % 2 = 0
    · rw [if_pos e2, ← c0]; congr 2; omega
    · rw [if_neg e2, ← c1]; congr 2; omega
  · rw [List.getElem?_eq_none (by rw [catCells_length]; omega)] at hu; cases hu
theorem strs_lies {w : World} {a : Option Addr} {n : Nat} {f : Nat → ByteArray} (h : StrAt w a n f) : LiesC w a n ((List.range n).map (fun i => Value.string (f i))) := fun hn => by
  obtain ⟨b, off, e, hlt, hc⟩ := h hn
  refine ⟨b, off, e, hlt, fun j u hu => ?_⟩
  by_cases hj : j < n
  · simp [hj] at hu
    rw [← hu]
    exact hc j hj
  · simp [hj] at hu

set_option maxRecDepth 100000 in
set_option maxHeartbeats 2000000 in
theorem copiedCat_any (c : CatL) (w : World) (hc : c.at w) (hn : c.n ≤ 1048576) :
    Calls Try.prog 39 #[c.val] w fun e w' => ∃ d : CatL, e = .returned d.val ∧ c.same d ∧ d.new w.heap.size w' ∧ Below w.heap.size w w' := by
  obtain ⟨a, n, cap, f, g⟩ := c
  obtain ⟨hm, hc⟩ := hc
  unfold CatL.val
  simp only at hm hc hn ⊢
  have L := hid (cats_lies hc)
  clear hc
  go_enter Try.func39, Try.ntmps39
  go_wp2_with (refine wpList_append_any Try.underlying31 Try.info80 rfl (by omega) _ rfl _ _ rfl w.heap.size (.slice none 0 0) 0 [] rfl (World.ownsRow_nil _ _ _ _) a n cap (catCells f g n) rfl (by simp [catCells]) L.out (catCells_one f g n) (by omega) (by omega) (Nat.le_refl _) ?_; intro a3 c3 w3 o3 g3; rw [Nat.zero_add, List.nil_append] at o3; rw [Nat.zero_add])
  go_ret
  have hr : OwnCats w3 w.heap.size (.slice a3 n c3) n f g := o3
  exact ⟨⟨a3, n, c3, f, g⟩, rfl, ⟨rfl, rfl, rfl⟩, ⟨⟨hm, hr.cats⟩, fun h0 => row_of_own o3 h0⟩, below_grown g3 (Nat.le_refl _) (fun j hj => by cases hj)⟩

set_option maxRecDepth 100000 in
set_option maxHeartbeats 2000000 in
theorem copiedInt_any (c : IntL) (w : World) (hc : c.at w) (hn : c.n ≤ 1048576) :
    Calls Try.prog 29 #[c.val] w fun e w' => ∃ d : IntL, e = .returned d.val ∧ c.same d ∧ d.new w.heap.size w' ∧ Below w.heap.size w w' := by
  obtain ⟨a, n, cap, f⟩ := c
  obtain ⟨hm, hc⟩ := hc
  unfold IntL.val
  simp only at hm hc hn ⊢
  have L0 := hc.intL
  have el : ((List.range n).map f).length = n := by simp
  have L : Hid (LiesC w a n (((List.range n).map f).map (Value.int .i64))) := hid (by unfold NumL at L0; rw [el] at L0; exact L0)
  clear hc L0
  go_enter Try.func29, Try.ntmps29
  go_wp2_with (refine wpList_append_any Try.underlying35 Try.info2 rfl (by omega) _ rfl _ _ rfl w.heap.size (.slice none 0 0) 0 [] rfl (World.ownsRow_nil _ _ _ _) a n cap (((List.range n).map f).map (Value.int .i64)) rfl (by simp) L.out (fun u hu => by obtain ⟨y, _, rfl⟩ := List.mem_map.1 hu; rfl) (by omega) (by omega) (Nat.le_refl _) ?_; intro a3 c3 w3 o3 g3; rw [Nat.zero_add, List.nil_append] at o3; rw [Nat.zero_add])
  go_ret
  have ho : OwnI w3 w.heap.size (.slice a3 ((List.range n).map f).length c3) ((List.range n).map f) := by unfold OwnI; rw [el]; exact o3
  have hi : IntsAt w3 a3 n f := fun h0 => by
    obtain ⟨b, off, e, hlt, hcc⟩ := (OwnI.lies ho).ints (by rw [el]; exact h0)
    refine ⟨b, off, e, hlt, fun i hi => ?_⟩
    have := hcc i (by rw [el]; exact hi)
    rw [this]
    simp [nthI, hi]
  exact ⟨⟨a3, n, c3, f⟩, rfl, ⟨rfl, rfl⟩, ⟨⟨hm, hi⟩, fun h0 => by have := row_of_own o3 h0; simpa using this⟩, below_grown g3 (Nat.le_refl _) (fun j hj => by cases hj)⟩
end Go.Proofs.Ytimacbpfnkephaa
