/- Marks in a kernel that a call made: no list lies in another's row; the whole kernel. -/
import Derived.Test.YtjceaajnemgheaaGreatDoorZ45
import Derived.Test.YtjceaajnemgheaaGreatDoorRT8
namespace Go.Proofs.YtjceaajnemgheaaGreatDoor
open Go Go.RowKit Go.Deep Go.Maps

theorem flat_ne : ∀ {L : List (List Nat)}, L.flatten.Nodup → ∀ {i j : Nat} {a b : List Nat} {x : Nat}, L[i]? = some a → L[j]? = some b → i ≠ j → x ∈ a → x ∈ b → False
  | [], _, i, _, _, _, _, h, _, _, _, _ => by simp at h
  | l :: r, hn, i, j, a, b, x, hi, hj, ne, ha, hb => by
    rw [List.flatten_cons, List.nodup_append] at hn
    obtain ⟨_, h2, h3⟩ := hn
    have up : ∀ {k : Nat} {c : List Nat}, r[k]? = some c → ∀ y ∈ c, y ∈ r.flatten := fun {k c} hk y hy => List.mem_flatten.2 ⟨c, List.mem_of_getElem? hk, hy⟩
    match i, j with
    | 0, 0 => exact ne rfl
    | 0, j + 1 =>
      simp at hi
      subst hi
      simp at hj
      exact h3 x ha x (up hj x hb) rfl
    | i + 1, 0 =>
      simp at hj
      subst hj
      simp at hi
      exact h3 x hb x (up hi x ha) rfl
    | i + 1, j + 1 =>
      simp at hi hj
      exact flat_ne h2 hi hj (by omega) ha hb
theorem nodup_of_flat : ∀ {L : List (List Nat)}, L.flatten.Nodup → ∀ {l : List Nat}, l ∈ L → l.Nodup
  | [], _, _, h => by cases h
  | a :: r, hn, l, h => by
    rw [List.flatten_cons, List.nodup_append] at hn
    rcases List.mem_cons.1 h with rfl | h
    · exact hn.1
    · exact nodup_of_flat hn.2.1 h
theorem beg_cat {c : CatL} {b : Nat} (h : beg c.a c.n b) : b ∈ c.bs := by unfold CatL.bs; rw [if_pos h.1, h.2]; simp
theorem beg_int {c : IntL} {b : Nat} (h : beg c.a c.n b) : b ∈ c.bs := by unfold IntL.bs; rw [if_pos h.1, h.2]; simp
theorem beg_str {c : StrL} {b : Nat} (h : beg c.a c.n b) : b ∈ c.bs := by unfold StrL.bs; rw [if_pos h.1, h.2]; simp
theorem mapT {β : Type} {lt : List ThrV} {f : ThrV → β} {i : Nat} (hi : i < lt.length) : (lt.map f)[i]? = some (f (atOwnT lt i)) := by simp [atOwnT, hi]
theorem mapO {β : Type} {lo : List ObjV} {f : ObjV → β} {i : Nat} (hi : i < lo.length) : (lo.map f)[i]? = some (f (atOwnOb lo i)) := by simp [atOwnOb, hi]
theorem mapTO {lt : List ThrV} {lo : List ObjV} {f : ThrV → List Nat} {f' : ObjV → List Nat} : (∀ i, i < lt.length → (lt.map f ++ lo.map f')[i]? = some (f (atOwnT lt i))) ∧ (∀ j, j < lo.length → (lt.map f ++ lo.map f')[lt.length + j]? = some (f' (atOwnOb lo j))) := by
  refine ⟨fun i hi => ?_, fun j hj => ?_⟩
  · rw [List.getElem?_append_left (by simpa using hi)]; exact mapT hi
  · rw [List.getElem?_append_right (by simp), List.length_map, Nat.add_sub_cancel_left]; exact mapO hj
structure KM (w : World) (B g h mg mh : Nat) (lt : List ThrV) (lo : List ObjV) : Prop where
  ts : TSep g lt.length (atOwnT lt)
  os : OSep h lo.length (atOwnOb lo)
  x1 : ∀ i j, i < lt.length → j < lo.length → ∀ b, (atOwnT lt i).hs b → ¬ (atOwnOb lo j).has b
  x2 : ∀ i, i < lt.length → ¬ (atOwnT lt i).hs h
  x3 : ∀ j, j < lo.length → ¬ (atOwnOb lo j).has g
  x4 : g ≠ h
  tz : TSmall lt.length (atOwnT lt)
  oz : OSmall lo.length (atOwnOb lo)
  tn : ∀ i, i < lt.length → (atOwnT lt i).new B w
  on : ∀ j, j < lo.length → (atOwnOb lo j).new B w
  gr : ∃ G, w.rowIs g 41 mg G ∧ SlT G lt.length (atOwnT lt)
  hr : ∃ G, w.rowIs h 45 mh G ∧ SlO G lo.length (atOwnOb lo)
  lg : lt.length * 7 ≤ mg ∧ lt.length ≤ 1000
  lh : lo.length * 10 ≤ mh ∧ lo.length ≤ 1000
  bg : B ≤ g
  bh : B ≤ h
theorem row_own {w : World} {B ty sz n c : Nat} {a : Option Addr} {xs : List Value} (h : w.ownsRow B ty sz (.slice a n c) n xs) (hn : 0 < n) : ∃ g G, a = some ⟨g, 0, none⟩ ∧ B ≤ g ∧ w.rowIs g ty (c * sz) G ∧ n * sz ≤ c * sz := by
  rcases h.2 with ⟨hv, h0⟩ | ⟨g, cap, cur, hv, hb, hg, h1, h2, h3, h4⟩
  · omega
  · simp only [Value.slice.injEq] at hv
    obtain ⟨rfl, _, rfl⟩ := hv
    exact ⟨g, fun i => cur.getD i undef, rfl, hb, ⟨cur, hg, h3, fun i hi => by simp [h3, hi]⟩, Nat.mul_le_mul_right _ h1⟩
set_option maxHeartbeats 1000000 in
theorem KM.of {w : World} {B ca co : Nat} {ta oa : Option Addr} {lt : List ThrV} {lo : List ObjV} (h : KSt w B (.slice ta lt.length ca) (.slice oa lo.length co) lt lo) (ha : Apart lt lo) (hat : (kOf ta ca oa co lt lo).at w) (h1 : 0 < lt.length ∧ lt.length ≤ 1000) (h2 : 0 < lo.length ∧ lo.length ≤ 1000) (hz : TSmall lt.length (atOwnT lt)) (hy : OSmall lo.length (atOwnOb lo)) :
    ∃ g h' , ta = some ⟨g, 0, none⟩ ∧ oa = some ⟨h', 0, none⟩ ∧ KM w B g h' (ca * 7) (co * 10) lt lo := by
  obtain ⟨g, G, rfl, bg, hG, lg⟩ := row_own h.t h1.1
  obtain ⟨h', H, rfl, bh, hH, lh⟩ := row_own h.o h2.1
  have tn : ∀ i, i < lt.length → (atOwnT lt i).new B w := fun i hi => h.tn _ (by simp [atOwnT, hi])
  have on : ∀ i, i < lo.length → (atOwnOb lo i).new B w := fun i hi => h.on _ (by simp [atOwnOb, hi])
  have C : ((lt.map ThrV.cb) ++ (lo.map ObjV.cb)).flatten.Nodup := by have := ha.c; simpa using this
  have I : ((lt.map fun x => x.own.bs) ++ (lo.map fun x => x.own.bs)).flatten.Nodup := by have := ha.i; simpa using this
  have rc : ∀ {c : CatL} {b : Nat}, c.new B w → beg c.a c.n b → ∃ m F, w.rowIs b 58 m F := fun hc hb => (hc.ownLt hb).2.2
  have ri : ∀ {c : IntL} {b : Nat}, c.new B w → beg c.a c.n b → ∃ m F, w.rowIs b 2 m F := fun hc hb => (hc.ownLt hb).2.2
  have rs : ∀ {c : StrL} {b : Nat}, c.new B w → beg c.a c.n b → ∃ m F, w.rowIs b 9 m F := fun hc hb => (hc.ownLt hb).2.2
  have no : ∀ {b t t' : Nat}, (∃ m F, w.rowIs b t m F) → (∃ m F, w.rowIs b t' m F) → t ≠ t' → False := fun ⟨_, _, a⟩ ⟨_, _, b⟩ ne => row_ne a b ne rfl
  -- what a list's row is
  have kt : ∀ i, i < lt.length → ∀ b, (atOwnT lt i).hs b → (b ∈ (atOwnT lt i).cb ∧ ∃ m F, w.rowIs b 58 m F) ∨ (b ∈ (atOwnT lt i).own.bs ∧ ∃ m F, w.rowIs b 2 m F) := fun i hi b hb => by
    rcases hb with hb | hb | hb
    · exact .inl ⟨List.mem_append_left _ (beg_cat hb), rc (tn i hi).1 hb⟩
    · exact .inl ⟨List.mem_append_right _ (beg_cat hb), rc (tn i hi).2.1 hb⟩
    · exact .inr ⟨beg_int hb, ri (tn i hi).2.2 hb⟩
  have ko : ∀ i, i < lo.length → ∀ b, (atOwnOb lo i).has b → (b ∈ (atOwnOb lo i).cb ∧ ∃ m F, w.rowIs b 58 m F) ∨ (b ∈ (atOwnOb lo i).own.bs ∧ ∃ m F, w.rowIs b 2 m F) ∨ (b ∈ (atOwnOb lo i).items.bs ∧ ∃ m F, w.rowIs b 9 m F) := fun i hi b hb => by
    rcases hb with hb | hb | hb | hb
    · exact .inl ⟨List.mem_append_left _ (beg_cat hb), rc (on i hi).1 hb⟩
    · exact .inr (.inr ⟨beg_str hb, rs (on i hi).2.1 hb⟩)
    · exact .inr (.inl ⟨beg_int hb, ri (on i hi).2.2.1 hb⟩)
    · exact .inl ⟨List.mem_append_right _ (beg_cat hb), rc (on i hi).2.2.2 hb⟩
  have in1 : ∀ {a b : List Nat}, (a ++ b).Nodup → ∀ x, x ∈ a → x ∈ b → False := fun hn x h1 h2 => (List.nodup_append.1 hn).2.2 x h1 x h2 rfl
  have ct : ∀ i, i < lt.length → (atOwnT lt i).cb.Nodup := fun i hi => by
    have := List.mem_of_getElem? ((mapTO (lo := lo) (f := ThrV.cb) (f' := ObjV.cb)).1 i hi)
    exact nodup_of_flat C this
  have co' : ∀ i, i < lo.length → (atOwnOb lo i).cb.Nodup := fun i hi => by
    have := List.mem_of_getElem? ((mapTO (lt := lt) (f := ThrV.cb) (f' := ObjV.cb)).2 i hi)
    exact nodup_of_flat C this
  have GT : ∃ m F, w.rowIs g 41 m F := ⟨_, _, hG⟩
  have HT : ∃ m F, w.rowIs h' 45 m F := ⟨_, _, hH⟩
  refine ⟨g, h', rfl, rfl, ⟨⟨fun j hj b e1 e2 => in1 (ct j hj) b (beg_cat e1) (beg_cat e2), fun j hj b e1 e2 => no (rc (tn j hj).1 e1) (ri (tn j hj).2.2 e2) (by decide), fun j hj b e1 e2 => no (rc (tn j hj).2.1 e1) (ri (tn j hj).2.2 e2) (by decide), fun i j hi hj ne b e1 e2 => ?_, fun j hj e => ?_⟩,
    ⟨fun j hj b e1 e2 => no (rc (on j hj).1 e1) (rs (on j hj).2.1 e2) (by decide), fun j hj b e1 e2 => no (rc (on j hj).1 e1) (ri (on j hj).2.2.1 e2) (by decide), fun j hj b e1 e2 => in1 (co' j hj) b (beg_cat e1) (beg_cat e2), fun j hj b e1 e2 => no (rs (on j hj).2.1 e1) (ri (on j hj).2.2.1 e2) (by decide), fun j hj b e1 e2 => no (rs (on j hj).2.1 e1) (rc (on j hj).2.2.2 e2) (by decide), fun j hj b e1 e2 => no (ri (on j hj).2.2.1 e1) (rc (on j hj).2.2.2 e2) (by decide), fun i j hi hj ne b e1 e2 => ?_, fun j hj e => ?_⟩,
    fun i j hi hj b e1 e2 => ?_, fun i hi e => ?_, fun j hj e => ?_, fun e => by subst e; exact no GT HT (by decide), hz, hy, tn, on, ⟨G, hG, fun j hj => ?_⟩, ⟨H, hH, fun j hj => ?_⟩, ⟨lg, h1.2⟩, ⟨lh, h2.2⟩, bg, bh⟩⟩
  · rcases kt i hi b e1 with ⟨a1, r1⟩ | ⟨a1, r1⟩ <;> rcases kt j hj b e2 with ⟨a2, r2⟩ | ⟨a2, r2⟩
    · exact flat_ne C (mapTO.1 i hi) (mapTO.1 j hj) ne a1 a2
    · exact no r1 r2 (by decide)
    · exact no r1 r2 (by decide)
    · exact flat_ne I (mapTO.1 i hi) (mapTO.1 j hj) ne a1 a2
  · rcases kt j hj g e with ⟨_, r1⟩ | ⟨_, r1⟩ <;> exact no r1 GT (by decide)
  · rcases ko i hi b e1 with ⟨a1, r1⟩ | ⟨a1, r1⟩ | ⟨a1, r1⟩ <;> rcases ko j hj b e2 with ⟨a2, r2⟩ | ⟨a2, r2⟩ | ⟨a2, r2⟩
    · exact flat_ne C (mapTO.2 i hi) (mapTO.2 j hj) (by omega) a1 a2
    · exact no r1 r2 (by decide)
    · exact no r1 r2 (by decide)
    · exact no r1 r2 (by decide)
    · exact flat_ne I (mapTO.2 i hi) (mapTO.2 j hj) (by omega) a1 a2
    · exact no r1 r2 (by decide)
    · exact no r1 r2 (by decide)
    · exact no r1 r2 (by decide)
    · exact flat_ne ha.s (mapO (f := fun x => x.items.bs) hi) (mapO (f := fun x => x.items.bs) hj) ne a1 a2
  · rcases ko j hj h' e with ⟨_, r1⟩ | ⟨_, r1⟩ | ⟨_, r1⟩ <;> exact no r1 HT (by decide)
  · rcases kt i hi b e1 with ⟨a1, r1⟩ | ⟨a1, r1⟩ <;> rcases ko j hj b e2 with ⟨a2, r2⟩ | ⟨a2, r2⟩ | ⟨a2, r2⟩
    · exact flat_ne C (mapTO.1 i hi) (mapTO.2 j hj) (by omega) a1 a2
    · exact no r1 r2 (by decide)
    · exact no r1 r2 (by decide)
    · exact no r1 r2 (by decide)
    · exact flat_ne I (mapTO.1 i hi) (mapTO.2 j hj) (by omega) a1 a2
    · exact no r1 r2 (by decide)
  · rcases kt i hi h' e with ⟨_, r1⟩ | ⟨_, r1⟩ <;> exact no r1 HT (by decide)
  · rcases ko j hj g e with ⟨_, r1⟩ | ⟨_, r1⟩ | ⟨_, r1⟩ <;> exact no r1 GT (by decide)
  · obtain ⟨b, off, e, _, hc⟩ := hat.2.2.1 h1.1
    cases e
    have q := (hc j hj).1
    have f : ∀ {i : Nat} {v : Value}, i < ca * 7 → w.cell? ⟨g, i, none⟩ = some v → G i = v := fun hi hv => by
      have := hG.cell hi
      rw [hv] at this
      exact (Option.some.inj this).symm
    have q2 := q.c2
    have q4 := q.c4
    have q5 := q.c5
    rw [Nat.zero_add] at q2 q4 q5
    exact ⟨f (by omega) q2, f (by omega) q4, f (by omega) q5⟩
  · obtain ⟨b, off, e, _, hc⟩ := hat.2.2.2 h2.1
    cases e
    have q := (hc j hj).1
    have f : ∀ {i : Nat} {v : Value}, i < co * 10 → w.cell? ⟨h', i, none⟩ = some v → H i = v := fun hi hv => by
      have := hH.cell hi
      rw [hv] at this
      exact (Option.some.inj this).symm
    have q4 := q.c4
    have q6 := q.c6
    have q7 := q.c7
    have q9 := q.c9
    rw [Nat.zero_add] at q4 q6 q7 q9
    exact ⟨f (by omega) q4, f (by omega) q6, f (by omega) q7, f (by omega) q9⟩
structure KMk (w : World) (g h mg mh : Nat) (lt : List ThrV) (lo : List ObjV) : Prop where
  gr : ∃ G, w.rowIs g 41 mg G ∧ SlT G lt.length (atOwnT lt) ∧ ∀ i, i < lt.length → TNum G i (atOwnT lt i) (tSt (atOwnT lt) 1 i)
  td : ∀ i, i < lt.length → TMark w (atOwnT lt i) (tSt (atOwnT lt) 1 i)
  hr : ∃ G, w.rowIs h 45 mh G ∧ SlO G lo.length (atOwnOb lo) ∧ ∀ i, i < lo.length → ONum G i (atOwnOb lo i) (oSt (atOwnOb lo) (tSt (atOwnT lt) 1 lt.length) i)
  od : ∀ i, i < lo.length → OMark w (atOwnOb lo i) (oSt (atOwnOb lo) (tSt (atOwnT lt) 1 lt.length) i)
theorem KMk.below {w w' : World} {g h mg mh : Nat} {lt : List ThrV} {lo : List ObjV} (k : KMk w g h mg mh lt lo) (hb : Below w.heap.size w w') : KMk w' g h mg mh lt lo := by
  obtain ⟨⟨G, a1, a2, a3⟩, b, ⟨H, c1, c2, c3⟩, d⟩ := k
  exact ⟨⟨G, rowUp a1 hb, a2, a3⟩, fun i hi => (b i hi).below hb, ⟨H, rowUp c1 hb, c2, c3⟩, fun i hi => (d i hi).below hb⟩
def kEnd (lt : List ThrV) (lo : List ObjV) : Int := oSt (atOwnOb lo) (tSt (atOwnT lt) 1 lt.length) lo.length
set_option maxRecDepth 100000 in
set_option maxHeartbeats 4000000 in
theorem markKernel_m (B g h mg mh ca co : Nat) (lt : List ThrV) (lo : List ObjV) (w : World) (hk : KM w B g h mg mh lt lo) (hB : B ≤ w.heap.size) :
    Calls Tryz.prog 7 #[.agg #[.slice (some ⟨g, 0, none⟩) lt.length ca, .slice (some ⟨h, 0, none⟩) lo.length co], .int .i64 1] w fun e w' => e = .returned (.int .i64 (kEnd lt lo)) ∧ KMk w' g h mg mh lt lo ∧ Below B w w' ∧ ∀ P cs, Blk w P (.cells cs 25) → Blk w' P (.cells cs 25) := by
  have b0 : Below w.heap.size w (w.alloc (.cells #[.slice (some ⟨g, 0, none⟩) lt.length ca, .slice (some ⟨h, 0, none⟩) lo.length co] 25)) := (Below.refl _ w).alloc (Nat.le_refl _) _
  have A0 := hid (Blk.new w (.cells #[.slice (some ⟨g, 0, none⟩) lt.length ca, .slice (some ⟨h, 0, none⟩) lo.length co] 25))
  have BB := hid b0
  have HK := hid hk
  have gl : g < w.heap.size := by obtain ⟨G, r, _⟩ := hk.gr; exact r.lt
  have hl : h < w.heap.size := by obtain ⟨G, r, _⟩ := hk.hr; exact r.lt
  have C1 := hid (markThreads_m g lt.length ca mg B (atOwnT lt) 1 (w.alloc (.cells #[.slice (some ⟨g, 0, none⟩) lt.length ca, .slice (some ⟨h, 0, none⟩) lo.length co] 25)) hk.lg.2 hk.lg.1 (by omega) (by omega) hk.ts hk.tz (fun j hj => (hk.tn j hj).keeps (KeepsK.of_below b0).l) (by obtain ⟨G, r, s⟩ := hk.gr; exact ⟨G, rowUp r b0, s⟩))
  have tl := tSt_le (k0 := 1) hk.tz lt.length (Nat.le_refl _)
  have l9 := hk.lg.2
  obtain ⟨x0, x1⟩ := A0.out.two
  clear hk b0
  go_enter Tryz.func7, Tryz.ntmps7
  go_wp2_with fail
  refine C1.out.mono ?_
  rintro e w1 ⟨rfl, i1⟩
  have I1 := hid i1
  have nA : ¬ (w.heap.size = g ∨ ∃ i, i < lt.length ∧ (atOwnT lt i).hs w.heap.size) := fun e => by
    rcases e with e | ⟨i, hi, e⟩
    · omega
    · have := HK.out.tn i hi
      rcases e with e | e | e
      · have := (this.1.ownLt e).1; omega
      · have := (this.2.1.ownLt e).1; omega
      · have := (this.2.2.ownLt e).1; omega
  have A1 : Blk w1 w.heap.size (.cells #[.slice (some ⟨g, 0, none⟩) lt.length ca, .slice (some ⟨h, 0, none⟩) lo.length co] 25) := (i1.t.block _ A0.out.lt nA).trans A0.out
  have on1 : ∀ j, j < lo.length → (atOwnOb lo j).new B w1 := fun j hj => ((HK.out.on j hj).keeps (KeepsK.of_below BB.out).l).touched i1.t (fun b hb e => by
    rcases e with rfl | ⟨i, hi, e⟩
    · exact HK.out.x3 j hj hb
    · exact HK.out.x1 i j hi hj b e hb)
  have C2 := hid (markObjects_m h lo.length co mh B (atOwnOb lo) (tSt (atOwnT lt) 1 lt.length) w1 HK.out.lh.2 HK.out.lh.1 (by omega) (by omega) HK.out.os HK.out.oz on1 (by
    obtain ⟨G, r, s⟩ := HK.out.hr
    refine ⟨G, i1.t.row (rowUp r BB.out) (fun e => ?_), s⟩
    rcases e with e | ⟨i, hi, e⟩
    · exact HK.out.x4 e.symm
    · exact HK.out.x2 i hi e))
  clear x0 x1 C1 A0 i1
  obtain ⟨x0, x1⟩ := A1.two
  go_wp2_with fail
  refine C2.out.mono ?_
  rintro e w2 ⟨rfl, i2⟩
  have FIN : Hid (KMk w2 g h mg mh lt lo ∧ Below B w w2 ∧ ∀ P cs, Blk w P (.cells cs 25) → Blk w2 P (.cells cs 25)) := hid (by
    have i1 := I1.out
    refine ⟨⟨?_, fun i hi => (i1.d i hi).touched (HK.out.tn i hi).begs i2.t (fun b hb e => ?_), i2.r, i2.d⟩, ?_, fun P cs hP => ?_⟩
    · obtain ⟨G, r, s, nn⟩ := i1.r
      refine ⟨G, i2.t.row r (fun e => ?_), s, nn⟩
      rcases e with e | ⟨j, hj, e⟩
      · exact HK.out.x4 e
      · exact HK.out.x3 j hj e
    · rcases e with rfl | ⟨j, hj, e⟩
      · exact HK.out.x2 i hi hb
      · exact HK.out.x1 i j hi hj b hb e
    · have t1 := i1.t
      have t2 := i2.t
      have bb := BB.out
      refine ⟨t2.os.trans (t1.os.trans bb.os), t2.tape.trans (t1.tape.trans bb.tape), t2.output.trans (t1.output.trans bb.output), Nat.le_trans bb.size (Nat.le_trans t1.size t2.size), fun k hk => ?_⟩
      have e0 := bb.block k (by omega)
      have e1 := t1.block k (Nat.lt_of_lt_of_le (by omega) bb.size) (fun e => by
        rcases e with e | ⟨i, hi, e⟩
        · have := HK.out.bg; omega
        · have q := HK.out.tn i hi
          rcases e with e | e | e
          · have := (q.1.ownLt e).2.1; omega
          · have := (q.2.1.ownLt e).2.1; omega
          · have := (q.2.2.ownLt e).2.1; omega)
      have e2 := t2.block k (Nat.lt_of_lt_of_le (Nat.lt_of_lt_of_le (by omega) bb.size) t1.size) (fun e => by
        rcases e with e | ⟨i, hi, e⟩
        · have := HK.out.bh; omega
        · have q := HK.out.on i hi
          rcases e with e | e | e | e
          · have := (q.1.ownLt e).2.1; omega
          · have := (q.2.1.ownLt e).2.1; omega
          · have := (q.2.2.1.ownLt e).2.1; omega
          · have := (q.2.2.2.ownLt e).2.1; omega)
      exact e2.trans (e1.trans e0)
    · have no : ∀ {t m : Nat} {F : Nat → Value}, w.rowIs P t m F → t ≠ 25 → False := fun {t m F} hr ht => by
        obtain ⟨c, h1, _⟩ := hr
        have hP' : w.heap[P]? = some (.cells cs 25 (0, 0)) := hP
        rw [h1] at hP'
        simp only [Option.some.injEq, Obj.cells.injEq, and_true] at hP'
        exact ht hP'.2
      have pl := hP.lt
      have b0 := hP.below BB.out
      have b1 : Blk w1 P _ := (i1.t.block P b0.lt (fun e => by
        rcases e with rfl | ⟨i, hi, e⟩
        · obtain ⟨G, r, _⟩ := HK.out.gr; exact no r (by decide)
        · have q := HK.out.tn i hi
          rcases e with e | e | e
          · obtain ⟨_, _, m, F, r⟩ := q.1.ownLt e; exact no r (by decide)
          · obtain ⟨_, _, m, F, r⟩ := q.2.1.ownLt e; exact no r (by decide)
          · obtain ⟨_, _, m, F, r⟩ := q.2.2.ownLt e; exact no r (by decide))).trans b0
      exact (i2.t.block P b1.lt (fun e => by
        rcases e with rfl | ⟨i, hi, e⟩
        · obtain ⟨G, r, _⟩ := HK.out.hr; exact no r (by decide)
        · have q := HK.out.on i hi
          rcases e with e | e | e | e
          · obtain ⟨_, _, m, F, r⟩ := q.1.ownLt e; exact no r (by decide)
          · obtain ⟨_, _, m, F, r⟩ := q.2.1.ownLt e; exact no r (by decide)
          · obtain ⟨_, _, m, F, r⟩ := q.2.2.1.ownLt e; exact no r (by decide)
          · obtain ⟨_, _, m, F, r⟩ := q.2.2.2.ownLt e; exact no r (by decide))).trans b1)
  clear x0 x1 C2 i2 I1
  go_wp2
  go_ret
  exact ⟨rfl, FIN.out⟩
set_option maxRecDepth 100000 in
set_option maxHeartbeats 4000000 in
theorem heldKernel_h (g h mg mh ca co : Nat) (lt : List ThrV) (lo : List ObjV) (w : World) (hk : KMk w g h mg mh lt lo) (h1 : lt.length * 7 ≤ mg ∧ lt.length ≤ 1000) (h2 : lo.length * 10 ≤ mh ∧ lo.length ≤ 1000) (hz : TSmall lt.length (atOwnT lt)) (hy : OSmall lo.length (atOwnOb lo)) :
    Calls Tryz.prog 8 #[.agg #[.slice (some ⟨g, 0, none⟩) lt.length ca, .slice (some ⟨h, 0, none⟩) lo.length co], .int .i64 1] w fun e w' => e = .returned (.int .i64 (kEnd lt lo)) ∧ Below w.heap.size w w' := by
  have b0 : Below w.heap.size w (w.alloc (.cells #[.slice (some ⟨g, 0, none⟩) lt.length ca, .slice (some ⟨h, 0, none⟩) lo.length co] 25)) := (Below.refl _ w).alloc (Nat.le_refl _) _
  have A0 := Blk.new w (.cells #[.slice (some ⟨g, 0, none⟩) lt.length ca, .slice (some ⟨h, 0, none⟩) lo.length co] 25)
  have BB := hid b0
  have K0 := hid (hk.below b0)
  have tl := tSt_le (k0 := 1) hz lt.length (Nat.le_refl _)
  have ol := oSt_le (k0 := tSt (atOwnT lt) 1 lt.length) hy lo.length (Nat.le_refl _)
  have l1 := h1.2
  have C1 := hid (heldThreads_h g lt.length ca mg (atOwnT lt) 1 _ h1.2 h1.1 (by omega) (by omega) hz K0.out.gr K0.out.td)
  have C2 := hid (fun W hW => heldObjects_h h lo.length co mh (atOwnOb lo) (tSt (atOwnT lt) 1 lt.length) W h2.2 h2.1 (by omega) (by omega) hy (K0.out.below hW).hr (K0.out.below hW).od)
  obtain ⟨x0, x1⟩ := A0.two
  have p1 : ¬ tSt (atOwnT lt) 1 lt.length < 0 := by omega
  have p2 : ¬ kEnd lt lo < 0 := by unfold kEnd; omega
  have eE : oSt (atOwnOb lo) (tSt (atOwnT lt) 1 lt.length) lo.length = kEnd lt lo := rfl
  rw [eE] at C2
  clear hk b0 ol tl eE
  generalize tSt (atOwnT lt) 1 lt.length = s at *
  generalize kEnd lt lo = z at *
  go_enter Tryz.func8, Tryz.ntmps8
  go_wp2_with fail
  refine C1.out.mono ?_
  rintro e w1 ⟨rfl, rfl⟩
  go_wp2_with fail
  refine (C2.out _ (Below.refl _ _)).mono ?_
  rintro e w2 ⟨rfl, hb2⟩
  have B2 := hid (then_ BB.out hb2)
  clear x0 x1 C1 C2 hb2
  go_wp2
  go_ret
  exact ⟨rfl, B2.out⟩
end Go.Proofs.YtjceaajnemgheaaGreatDoor
