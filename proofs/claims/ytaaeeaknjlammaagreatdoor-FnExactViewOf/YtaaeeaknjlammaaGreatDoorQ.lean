/- The program's map of levels: levelsOf fills it, of reads it. -/
import Derived.Test.YtaaeeaknjlammaaGreatDoorZA
import Derived.Maps.Own
import Derived.Maps.OwnSet
namespace Go.Proofs.YtaaeeaknjlammaaGreatDoor
open Go.RowKit Go.Deep Go.Maps

theorem keyed2 : Keyed Tryz.prog 2 := int_keyed Tryz.underlying2
theorem zero2 (w : World) : (zeroValue 2).run Tryz.prog w = .ok (.int .i64 0) w := by kernel_rfl

/-- the level that the first k categories give to x, the later one where two are alike -/
def look (f g : Nat → Int) : Nat → Int → Option Int
  | 0, _ => none
  | k + 1, x => if f k = x then some (g k) else look f g k x

/-- block b is a map from whole numbers to whole numbers that holds what m says -/
def MapIs (w : World) (b n : Nat) (m : Int → Option Int) : Prop :=
  ∃ D : DataW Unit, w.ownsMap Tryz.prog 2 (plainElem Tryz.prog 2) b n D ∧ IsMap D ∧
    ∀ x, Maps.has D (.int .i64 x) = (m x).isSome ∧ ∀ v, m x = some v → D.atKey (.int .i64 x) (.lit (.int .i64 0)) = .lit (.int .i64 v)

theorem MapIs.made (w : World) : MapIs (w.alloc (.map #[] 0)) w.heap.size 0 (fun _ => none) :=
  ⟨.map [], World.ownsMap_made _ _ _ _, isMap_empty, fun x => ⟨rfl, fun v h => by cases h⟩⟩

theorem MapIs.of_block {w w' : World} {b n : Nat} {m : Int → Option Int} (h : MapIs w b n m) (e : w'.heap[b]? = w.heap[b]?) : MapIs w' b n m := by
  obtain ⟨D, ⟨es, clock, hb, F, hs, hD⟩, r⟩ := h
  exact ⟨D, ⟨es, clock, e.trans hb, F, hs, hD⟩, r⟩

theorem MapIs.setCell {w : World} {b n : Nat} {m : Int → Option Int} (h : MapIs w b n m) {a : Addr} (ha : b ≠ a.block) (v : Value) : MapIs (w.setCell a v) b n m := h.of_block (blk_setCell_other _ _ _ _ ha)

theorem MapIs.lt {w : World} {b n : Nat} {m : Int → Option Int} (h : MapIs w b n m) : b < w.heap.size := by
  obtain ⟨D, h1, _⟩ := h
  exact h1.lt

theorem MapIs.alloc {w : World} {b n : Nat} {m : Int → Option Int} (h : MapIs w b n m) (o : Obj) : MapIs (w.alloc o) b n m := by
  obtain ⟨D, h1, h2, h3⟩ := h
  exact ⟨D, h1.alloc o, h2, h3⟩

def setAt (m : Int → Option Int) (k v : Int) (x : Int) : Option Int := if k = x then some v else m x

theorem MapIs.put {D : DataW Unit} {m : Int → Option Int} {k v : Int} (h2 : IsMap D)
    (h3 : ∀ x, Maps.has D (.int .i64 x) = (m x).isSome ∧ ∀ v, m x = some v → D.atKey (.int .i64 x) (.lit (.int .i64 0)) = .lit (.int .i64 v)) :
    IsMap (D.put (.int .i64 k) (.lit (.int .i64 v))) ∧
    ∀ x, Maps.has (D.put (.int .i64 k) (.lit (.int .i64 v))) (.int .i64 x) = (setAt m k v x).isSome ∧ ∀ u, setAt m k v x = some u → (D.put (.int .i64 k) (.lit (.int .i64 v))).atKey (.int .i64 x) (.lit (.int .i64 0)) = .lit (.int .i64 u) := by
  refine ⟨h2.put _ _, fun x => ?_⟩
  by_cases e : k = x
  · subst e
    refine ⟨?_, fun u hu => ?_⟩
    · rw [has_put_same h2 (by trivial)]; simp [setAt]
    · simp [setAt] at hu
      subst hu
      exact atKey_put_same h2 (by trivial) _ _
  · have hne : (Lit.int .i64 x) ≠ (Lit.int .i64 k) := by simp; exact fun h => e h.symm
    refine ⟨?_, fun u hu => ?_⟩
    · rw [has_put_other hne]; simp [setAt, e]; exact (h3 x).1
    · simp [setAt, e] at hu
      rw [atKey_put_other hne]
      exact (h3 x).2 u hu

theorem look_setAt (f g : Nat → Int) (k : Nat) : setAt (look f g k) (f k) (g k) = look f g (k + 1) := by
  funext x; rfl

theorem grown_cell {w w' : World} {b : Nat} (hg : w.grownBy w' (some b)) {k o : Nat} (hk : k < w.heap.size) (hne : k ≠ b) : w'.cell? ⟨k, o, none⟩ = w.cell? ⟨k, o, none⟩ :=
  World.cell?_of_block (w := w) (hg.block k hk (fun e => hne (by simpa using e)))
theorem grown_frozen {w w' : World} {b : Nat} (hg : w.grownBy w' (some b)) {k o : Nat} (hk : k < w.heap.size) (hne : k ≠ b) : w'.frozen? ⟨k, o, none⟩ = w.frozen? ⟨k, o, none⟩ :=
  World.frozen?_of_block (w := w) (hg.block k hk (fun e => hne (by simpa using e)))

set_option maxHeartbeats 1000000 in
theorem levelsOf_any (base : Int) (a : Option Addr) (n cap : Nat) (f g : Nat → Int) (w : World) (hn : n ≤ 1048576) (hc : CatsAt w a n f g)
    (hw : ∀ i, i < n → (Lit.int .i64 (f i)).wf = true ∧ (Lit.int .i64 (g i)).wf = true) :
    Calls Tryz.prog 83 #[.agg #[.int .i64 base, .slice a n cap]] w fun e w' => ∃ c, e = .returned (.agg #[.int .i64 base, .map (some c)]) ∧ w.heap.size ≤ c ∧ MapIs w' c n (look f g n) ∧ w.heap.size + 3 < w'.heap.size ∧ Below w.heap.size w w' := by
  have hmm := @run_makeMap Tryz.prog
  go_enter Tryz.func83, Tryz.ntmps83
  go_wp2
  go_loopw [13] (fun i wr => ∃ k : Nat, k ≤ n ∧ i = .int .i64 k ∧ MapIs wr (w.heap.size + 1 + 1) k (look f g k) ∧ wr.cell? ⟨w.heap.size + 1 + 1 + 1, 0, none⟩ = some (.int .i64 base) ∧ wr.cell? ⟨w.heap.size + 1 + 1 + 1, 1, none⟩ = some (.map (some (w.heap.size + 1 + 1))) ∧
      wr.cell? ⟨w.heap.size + 1, 0, none⟩ = some (.int .i64 0) ∧ wr.cell? ⟨w.heap.size + 1, 1, none⟩ = some (.map none) ∧ wr.frozen? ⟨w.heap.size + 1, 0, none⟩ = false ∧ wr.frozen? ⟨w.heap.size + 1, 1, none⟩ = false ∧ w.heap.size + 1 + 1 + 1 < wr.heap.size ∧ Below w.heap.size w wr) (fun i _ => n - (intOf i).toNat)
  case atStart =>
    refine ⟨0, Nat.zero_le _, rfl, ?_, by go_simp, by go_simp, by go_simp, by go_simp, by go_simp, by go_simp, by simp, ?_⟩
    · have := (MapIs.made ((w.alloc (.cells #[.int .i64 base, .slice a n cap] 39)).alloc (.cells #[.int .i64 0, .map none] 137))).alloc (.cells #[.int .i64 base, .map (some (w.heap.size + 1 + 1))] 137)
      simpa [look] using this
    · exact ((((Below.refl _ w).alloc (Nat.le_refl _) _).alloc (by simp) _).alloc (by simp; omega) _).alloc (by simp; omega) _
  case round =>
    obtain ⟨k, hk, rfl, ⟨D, hown, hD, hm⟩, x0, x1, y0, y1, f0, f1, hz, hB⟩ := hrel
    clear hmm
    by_cases hlt' : k < n
    · obtain ⟨b, off, rfl, hlt, hcc⟩ := hc (by omega)
      obtain ⟨h1, h2⟩ := hcc k hlt'
      obtain ⟨w1, w2⟩ := hw k hlt'
      have g1 : wr.cell? ⟨b, off + k * 2, none⟩ = some (.int .i64 (f k)) := (hB.cell (p := ⟨b, _, none⟩) hlt).trans h1
      have g2 : wr.cell? ⟨b, off + k * 2 + 1, none⟩ = some (.int .i64 (g k)) := (hB.cell (p := ⟨b, _, none⟩) hlt).trans h2
      clear h1 h2 hcc hc
      have hkey : keyOf Tryz.prog 2 (.int .i64 (f k)) = some (.int .i64 (f k)) := keyOf_int_mk Tryz.underlying2 w1
      have W2 : Hid ((Lit.int .i64 (g k)).wf = true) := w2
      clear w1 w2
      go_wp2_with (at_mapUpdate; refine wpList_mapUpdate_own _ rfl _ _ _ 135 rfl 2 2 keyed2 Tryz.underlying135 _ (w.heap.size + 1 + 1) k _ rfl (hown.alloc _) (by unfold maxLen; omega) _ _ _ rfl rfl hkey _ [] (plainElem_int Tryz.underlying2 W2.out) ?_; intro w1 hown1 hgrow1)
      have hm1 := MapIs.put (k := f k) (v := g k) hD hm
      rw [look_setAt] at hm1
      have s1 : w.heap.size + 1 + 1 + 1 < (wr.alloc (.cells #[.int .i64 (f k), .int .i64 (g k)] 100)).heap.size := by simp; omega
      go_roundw
      case rel =>
        refine ⟨k + 1, by omega, by go_num, ⟨_, hown1, hm1.1, hm1.2⟩, ?_, ?_, ?_, ?_, ?_, ?_, Nat.lt_of_lt_of_le s1 hgrow1.size, ?_⟩
        · exact (grown_cell hgrow1 s1 (by omega)).trans (((Below.refl _ wr).alloc (Nat.le_refl _) _).cell (p := ⟨_, _, none⟩) hz |>.trans x0)
        · exact (grown_cell hgrow1 s1 (by omega)).trans (((Below.refl _ wr).alloc (Nat.le_refl _) _).cell (p := ⟨_, _, none⟩) hz |>.trans x1)
        · exact (grown_cell hgrow1 (by omega) (by omega)).trans (((Below.refl _ wr).alloc (Nat.le_refl _) _).cell (p := ⟨_, _, none⟩) (by dsimp only; omega) |>.trans y0)
        · exact (grown_cell hgrow1 (by omega) (by omega)).trans (((Below.refl _ wr).alloc (Nat.le_refl _) _).cell (p := ⟨_, _, none⟩) (by dsimp only; omega) |>.trans y1)
        · exact (grown_frozen hgrow1 (by omega) (by omega)).trans (((Below.refl _ wr).alloc (Nat.le_refl _) _).frozen (p := ⟨_, _, none⟩) (by dsimp only; omega) |>.trans f0)
        · exact (grown_frozen hgrow1 (by omega) (by omega)).trans (((Below.refl _ wr).alloc (Nat.le_refl _) _).frozen (p := ⟨_, _, none⟩) (by dsimp only; omega) |>.trans f1)
        · exact (hB.alloc (by omega) _).grown hgrow1 (by omega) (fun j hj => by cases hj; omega)
      case measure => simp [intOf]; omega
    · clear hc
      have e : k = n := by omega
      have HM : MapIs wr (w.heap.size + 1 + 1) n (look f g n) := by rw [← e]; exact ⟨D, hown, hD, hm⟩
      clear hown hD hm e
      go_wp2
      refine bodyPost_ret (v := .agg #[.int .i64 base, .map (some (w.heap.size + 1 + 1))]) (by simp [results, Tryz.results83, go_sem, *]) rfl ⟨_, rfl, by omega, ?_, ?_, ?_⟩
      · exact (HM.setCell (by dsimp only; omega) _).setCell (by dsimp only; omega) _
      · simpa using hz
      · exact (hB.setCell (by dsimp only; omega) _).setCell (by dsimp only; omega) _
end Go.Proofs.YtaaeeaknjlammaaGreatDoor
