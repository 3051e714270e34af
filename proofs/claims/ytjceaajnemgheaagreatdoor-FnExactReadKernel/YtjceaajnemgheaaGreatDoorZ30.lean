/- ReadKernel of the model: the kernel while it is read. -/
import Derived.Test.YtjceaajnemgheaaGreatDoorZ29
namespace Go.Proofs.YtjceaajnemgheaaGreatDoor
open Go Go.RowKit Go.Deep Go.Maps

theorem flat_set {α : Type} {f : α → List Value} {c : Nat} (hl : ∀ x, (f x).length = c) : ∀ {l : List α} {t i : Nat} {x : α} {u : Value} (ht : t < l.length), i < c → f x = (f l[t]).set i u → ((l.map f).flatten).set (t * c + i) u = ((l.set t x).map f).flatten
  | [], t, _, _, _, ht, _, _ => absurd ht (Nat.not_lt_zero t)
  | y :: r, 0, i, x, u, _, hi, h => by
    show (f y ++ (r.map f).flatten).set (0 * c + i) u = f x ++ (r.map f).flatten
    rw [Nat.zero_mul, Nat.zero_add, List.set_append_left _ _ (by rw [hl]; exact hi)]
    have h' : f x = (f y).set i u := h
    rw [h']
  | y :: r, t + 1, i, x, u, ht, hi, h => by
    show (f y ++ (r.map f).flatten).set ((t + 1) * c + i) u = f y ++ ((r.set t x).map f).flatten
    have e : (t + 1) * c + i = (f y).length + (t * c + i) := by rw [hl, Nat.succ_mul]; omega
    rw [e, List.set_append_right _ _ (by omega), Nat.add_sub_cancel_left]
    rw [flat_set hl (l := r) (t := t) (x := x) (by simpa using ht) hi h]
theorem ObjV.cs_len (x : ObjV) : x.cs.length = 10 := rfl
theorem KSt.setK {w : World} {B P i : Nat} {vt vo : Value} {lt : List ThrV} {lo : List ObjV} {cs : Array Value} (h : KSt w B vt vo lt lo) (hb : Blk w P (.cells cs 25)) (u : Value) : KSt (w.setCell ⟨P, i, none⟩ u) B vt vo lt lo := by
  have k := keeps_set (i := i) hb (by decide) u
  exact ⟨h.t.set hb (by decide) u, h.o.set hb (by decide) u, fun x hx => (h.tn x hx).keeps k, fun x hx => (h.on x hx).keeps k, h.tc, h.oc⟩
theorem OwnS.keeps {w w' : World} {B : Nat} {v : Value} {l : List (List UInt8)} (h : OwnS w B v l) (k : KeepsL w w') : OwnS w' B v l := by
  refine ⟨h.1, ?_⟩
  rcases h.2 with hn | ⟨g, cap, cur, hv, hbg, hgg, rest⟩
  · exact .inl hn
  · exact .inr ⟨g, cap, cur, hv, hbg, (k.block g cur _ hgg (.inr (.inr rfl))).trans hgg, rest⟩
theorem OwnS.other {w : World} {B P i : Nat} {v : Value} {l : List (List UInt8)} (h : OwnS w B v l) (hne : ¬ v.ownBlock = some P) (x : Value) : OwnS (w.setCell ⟨P, i, none⟩ x) B v l := by
  refine ⟨h.1, ?_⟩
  rcases h.2 with hn | ⟨g, cap, cur, hv, hbg, hgg, rest⟩
  · exact .inl hn
  · exact .inr ⟨g, cap, cur, hv, hbg, (Below.heap_setCell _ _ _ _ (fun e => hne (by rw [hv]; show some g = some P; rw [e]))).trans hgg, rest⟩
theorem OwnS.str {w : World} {B c : Nat} {a : Option Addr} {l : List (List UInt8)} (h : OwnS w B (.slice a l.length c) l) (hl : l.length ≤ 1048576) (hz : ∀ x ∈ l, x.length ≤ 1048576) : StrL.new B w ⟨a, l.length, c, fun i => bytesOf (l.getD i [])⟩ := by
  have row : 0 < l.length → ∃ b m F, a = some ⟨b, 0, none⟩ ∧ B ≤ b ∧ l.length ≤ m ∧ w.rowIs b 9 m F := fun h0 => by
    rcases h.2 with ⟨hv, hn⟩ | ⟨g, cap, cur, hv, hbg, hgg, h1, h2, h3⟩
    · simp only [Value.slice.injEq] at hv
      omega
    · simp only [Value.slice.injEq] at hv
      obtain ⟨rfl, _, _⟩ := hv
      refine ⟨g, cur.size, fun i => cur.getD i undef, rfl, hbg, ?_, ⟨cur, hgg, rfl, fun i hi => by simp [hi]⟩⟩
      omega
  refine ⟨⟨by unfold maxLen; show l.length ≤ _; omega, fun h0 => ?_, fun i hi => ?_⟩, row⟩
  · obtain ⟨b, m, F, rfl, _, _, hr⟩ := row h0
    refine ⟨b, 0, rfl, hr.lt, fun i hi => ?_⟩
    have hi' : i < l.length := hi
    have := h.cells i l[i] (List.getElem?_eq_getElem hi')
    simpa [hi'] using this
  · have hi' : i < l.length := hi
    show (bytesOf (l.getD i [])).size ≤ maxLen
    rw [bytesOf_size]
    have := hz l[i] (List.getElem_mem hi')
    unfold maxLen
    simp [hi']
    omega
theorem OwnN.int {w : World} {B c : Nat} {a : Option Addr} {l : List Int} (h : OwnN w B (.slice a l.length c) l) (hl : l.length ≤ 1048576) : IntL.new B w ⟨a, l.length, c, fun i => l.getD i 0⟩ := by
  have row : 0 < l.length → ∃ b m F, a = some ⟨b, 0, none⟩ ∧ B ≤ b ∧ l.length ≤ m ∧ w.rowIs b 2 m F := fun h0 => by
    rcases h.2 with ⟨hv, hn⟩ | ⟨g, cap, cur, hv, hbg, hgg, h1, h2, h3⟩
    · simp only [Value.slice.injEq] at hv
      omega
    · simp only [Value.slice.injEq] at hv
      obtain ⟨rfl, _, _⟩ := hv
      refine ⟨g, cur.size, fun i => cur.getD i undef, rfl, hbg, ?_, ⟨cur, hgg, rfl, fun i hi => by simp [hi]⟩⟩
      omega
  refine ⟨⟨by unfold maxLen; show l.length ≤ _; omega, fun h0 => ?_⟩, row⟩
  obtain ⟨b, m, F, rfl, _, _, hr⟩ := row h0
  refine ⟨b, 0, rfl, hr.lt, fun i hi => ?_⟩
  have hi' : i < l.length := hi
  have := h.cells i l[i] (List.getElem?_eq_getElem hi')
  simpa [hi'] using this
end Go.Proofs.YtjceaajnemgheaaGreatDoor
namespace Go.Proofs.YtjceaajnemgheaaGreatDoor
open Go Go.RowKit Go.Deep Go.Maps

theorem own_room {w : World} {B ty sz n c : Nat} {a : Option Addr} {xs : List Value} (h : w.ownsRow B ty sz (.slice a n c) n xs) : n ≤ c ∧ c ≤ maxLen := by
  rcases h.2 with ⟨hv, hn⟩ | ⟨g, cap, cur, hv, _, _, h1, h2, _⟩
  · simp only [Value.slice.injEq] at hv
    obtain ⟨_, rfl, rfl⟩ := hv
    exact ⟨Nat.le_refl _, Nat.zero_le _⟩
  · simp only [Value.slice.injEq] at hv
    obtain ⟨_, _, rfl⟩ := hv
    exact ⟨h1, h2⟩
theorem atT_append {lt : List ThrV} {u : ThrV} : (∀ i, i < lt.length → atOwnT (lt ++ [u]) i = atOwnT lt i) ∧ atOwnT (lt ++ [u]) lt.length = u := ⟨fun i hi => by simp [atOwnT, List.getElem?_append, hi], by simp [atOwnT]⟩
theorem atO_append {lo : List ObjV} {u : ObjV} : (∀ i, i < lo.length → atOwnOb (lo ++ [u]) i = atOwnOb lo i) ∧ atOwnOb (lo ++ [u]) lo.length = u := ⟨fun i hi => by simp [atOwnOb, List.getElem?_append, hi], by simp [atOwnOb]⟩
theorem atO_get {lo : List ObjV} {i : Nat} (h : i < lo.length) : atOwnOb lo i = lo[i] := by simp [atOwnOb, h]
theorem getD_app {α : Type} {l : List α} {x d : α} : (∀ i, i < l.length → (l ++ [x]).getD i d = l.getD i d) ∧ (l ++ [x]).getD l.length d = x := ⟨fun i hi => by simp [List.getElem?_append, hi], by simp⟩
def LastS (wr : World) (B : Nat) (os : List OD) (lo : List ObjV) : Prop :=
  ∀ i, i + 1 = lo.length → ∃ M, B ≤ M ∧ M ≤ wr.heap.size ∧ (∀ j, j < i → ∀ b, (atOwnOb lo j).items.a = some ⟨b, 0, none⟩ → 0 < (atOwnOb lo j).items.n → b < M) ∧ OwnS wr M (atOwnOb lo i).items.val (os.getD i zO).items
structure RSt (w wr : World) (ts : List TD) (os : List OD) (vt vo : Value) (lt : List ThrV) (lo : List ObjV) : Prop where
  st : KSt wr w.heap.size vt vo lt lo
  lT : lt.length = ts.length
  sT : ∀ i, i < ts.length → (ts.getD i zT).v.same (atOwnT lt i)
  lO : lo.length = os.length
  sO : ∀ i, i < os.length → (os.getD i zO).v.same (atOwnOb lo i)
  dz : ∀ d ∈ os, d.data.length ≤ 1048576
  last : LastS wr w.heap.size os lo
  r : Blk wr w.heap.size (.cells #[.slice none 0 0, .slice none 0 0] 25)
  k : Blk wr (w.heap.size + 1) (.cells #[vt, vo] 25)
  be : Below w.heap.size w wr
theorem LastS.keeps {wr wr' : World} {B : Nat} {os : List OD} {lo : List ObjV} (h : LastS wr B os lo) (k : KeepsL wr wr') : LastS wr' B os lo := fun i hi => by
  obtain ⟨M, h1, h0, h2, h3⟩ := h i hi
  exact ⟨M, h1, Nat.le_trans h0 k.size, h2, h3.keeps k⟩
theorem RSt.below {w wr wr' : World} {ts : List TD} {os : List OD} {vt vo : Value} {lt : List ThrV} {lo : List ObjV} (h : RSt w wr ts os vt vo lt lo) (hb : Below wr.heap.size wr wr') : RSt w wr' ts os vt vo lt lo :=
  ⟨h.st.below hb, h.lT, h.sT, h.lO, h.sO, h.dz, h.last.keeps (KeepsK.of_below hb).l, h.r.below hb, h.k.below hb, then_ h.be hb⟩
theorem RSt.ker {w wr : World} {ts : List TD} {os : List OD} {ta oa : Option Addr} {ca co : Nat} {lt : List ThrV} {lo : List ObjV} (h : RSt w wr ts os (.slice ta lt.length ca) (.slice oa lo.length co) lt lo) (h1 : lt.length ≤ 1048576) (h2 : lo.length ≤ 1048576) : (kOf ta ca oa co lt lo).at wr ∧ (kerD ts os).same (kOf ta ca oa co lt lo) := by
  refine ⟨h.st.at h1 h2 fun x hx => ?_, h.lT, fun j hj => h.sT j hj, h.lO, fun j hj => h.sO j hj⟩
  obtain ⟨i, hi, rfl⟩ := List.getElem_of_mem hx
  have s := h.sO i (by rw [← h.lO]; exact hi)
  rw [atO_get hi] at s
  obtain ⟨_, _, _, _, _, e, _⟩ := s
  rw [e]
  show (bytesOf (os.getD i zO).data).size ≤ maxLen
  rw [bytesOf_size]
  have : os.getD i zO ∈ os := by
    have hi' : i < os.length := by rw [← h.lO]; exact hi
    simp [hi']
  have := h.dz _ this
  unfold maxLen
  omega
theorem RSt.setT {w wr : World} {ts : List TD} {os : List OD} {vt vo v : Value} {lt : List ThrV} {lo : List ObjV} (h : KSt wr w.heap.size v vo lt lo) (lT : lt.length = ts.length) (sT : ∀ i, i < ts.length → (ts.getD i zT).v.same (atOwnT lt i)) (lO : lo.length = os.length) (sO : ∀ i, i < os.length → (os.getD i zO).v.same (atOwnOb lo i)) (dz : ∀ d ∈ os, d.data.length ≤ 1048576) (last : LastS wr w.heap.size os lo)
    (r : Blk wr w.heap.size (.cells #[.slice none 0 0, .slice none 0 0] 25)) (k : Blk wr (w.heap.size + 1) (.cells #[vt, vo] 25)) (be : Below w.heap.size w wr) : RSt w (wr.setCell ⟨w.heap.size + 1, 0, none⟩ v) ts os v vo lt lo :=
  ⟨h.setK k v, lT, sT, lO, sO, dz, last.keeps (keeps_set k (by decide) v), r.other (by omega) _, k.setAt (i := 0) v, be.setCell (by show _ ≤ w.heap.size + 1; omega) _⟩
theorem RSt.setO {w wr : World} {ts : List TD} {os : List OD} {vt vo v : Value} {lt : List ThrV} {lo : List ObjV} (h : KSt wr w.heap.size vt v lt lo) (lT : lt.length = ts.length) (sT : ∀ i, i < ts.length → (ts.getD i zT).v.same (atOwnT lt i)) (lO : lo.length = os.length) (sO : ∀ i, i < os.length → (os.getD i zO).v.same (atOwnOb lo i)) (dz : ∀ d ∈ os, d.data.length ≤ 1048576) (last : LastS wr w.heap.size os lo)
    (r : Blk wr w.heap.size (.cells #[.slice none 0 0, .slice none 0 0] 25)) (k : Blk wr (w.heap.size + 1) (.cells #[vt, vo] 25)) (be : Below w.heap.size w wr) : RSt w (wr.setCell ⟨w.heap.size + 1, 1, none⟩ v) ts os vt v lt lo :=
  ⟨h.setK k v, lT, sT, lO, sO, dz, last.keeps (keeps_set k (by decide) v), r.other (by omega) _, k.setAt (i := 1) v, be.setCell (by show _ ≤ w.heap.size + 1; omega) _⟩
theorem RSt.addT {w wr w' : World} {ts : List TD} {os : List OD} {vt vo v : Value} {lt : List ThrV} {lo : List ObjV} {d : TD} {x : ThrV} (h : RSt w wr ts os vt vo lt lo) (ho : OwnT w' w.heap.size v (lt ++ [x])) (hg : wr.grownBy w' vt.ownBlock) (hx : x.new w.heap.size wr) (hs : d.v.same x) (hc : x.own.n ≤ x.own.k ∧ x.own.k ≤ maxLen) :
    Blk w' (w.heap.size + 1) (.cells #[vt, vo] 25) ∧ RSt w (w'.setCell ⟨w.heap.size + 1, 0, none⟩ v) (ts ++ [d]) os v vo (lt ++ [x]) lo := by
  obtain ⟨k1, kk⟩ := h.st.addT ho hg hx hc
  have kb := kk.blk h.k (by decide) (by decide)
  refine ⟨kb, RSt.setT k1 (by simp [h.lT]) (fun i hi => ?_) h.lO h.sO h.dz (h.last.keeps kk.l) (kk.blk h.r (by decide) (by decide)) kb (h.be.trans (below_grown hg h.be.size (own_low h.st.t)))⟩
  by_cases e : i < ts.length
  · rw [getD_app.1 i e, atT_append.1 i (by rw [h.lT]; exact e)]; exact h.sT i e
  · have ei : i = ts.length := by simp at hi; omega
    rw [ei, getD_app.2, ← h.lT, atT_append.2]; exact hs
theorem RSt.addO {w wr w' : World} {ts : List TD} {os : List OD} {vt vo v : Value} {lt : List ThrV} {lo : List ObjV} {d : OD} {x : ObjV} (h : RSt w wr ts os vt vo lt lo) (ho : OwnOb w' w.heap.size v (lo ++ [x])) (hg : wr.grownBy w' vo.ownBlock) (hx : x.new w.heap.size wr) (hs : d.v.same x) (hc : x.items.n ≤ x.items.k ∧ x.items.k ≤ maxLen) (hd : d.data = []) (hi0 : d.items = []) (hv : x.items.val = .slice none 0 0) :
    Blk w' (w.heap.size + 1) (.cells #[vt, vo] 25) ∧ RSt w (w'.setCell ⟨w.heap.size + 1, 1, none⟩ v) ts (os ++ [d]) vt v lt (lo ++ [x]) := by
  obtain ⟨k1, kk⟩ := h.st.addO ho hg hx hc
  have kb := kk.blk h.k (by decide) (by decide)
  refine ⟨kb, RSt.setO k1 h.lT h.sT (by simp [h.lO]) (fun i hi => ?_) (fun y hy => ?_) (fun i hi => ?_) (kk.blk h.r (by decide) (by decide)) kb (h.be.trans (below_grown hg h.be.size (own_low h.st.o)))⟩
  · by_cases e : i < os.length
    · rw [getD_app.1 i e, atO_append.1 i (by rw [h.lO]; exact e)]; exact h.sO i e
    · have ei : i = os.length := by simp at hi; omega
      rw [ei, getD_app.2, ← h.lO, atO_append.2]; exact hs
  · rcases List.mem_append.1 hy with hy | hy
    · exact h.dz y hy
    · rw [List.mem_singleton.1 hy, hd]; exact Nat.zero_le _
  · have ei : i = lo.length := by simp at hi; omega
    refine ⟨w'.heap.size, Nat.le_trans h.be.size hg.size, Nat.le_refl _, fun j hj b hb hn => ?_, ?_⟩
    · rw [atO_append.1 j (by omega)] at hb hn
      have hj' : j < lo.length := by omega
      rw [atO_get hj'] at hb hn
      obtain ⟨b', m, F, e, _, _, hr⟩ := (k1.on lo[j] (List.mem_append_left _ (List.getElem_mem hj'))).2.1.2 hn
      rw [hb] at e
      cases e
      exact hr.lt
    · rw [ei, atO_append.2, hv]
      have : (os ++ [d]).getD lo.length zO = d := by rw [h.lO]; exact getD_app.2
      rw [this, hi0]
      exact OwnS.nil _ _
theorem last_set {lo : List ObjV} {x : ObjV} {i : Nat} (hi : i + 1 = lo.length) : (∀ j, j < i → atOwnOb (lo.set i x) j = atOwnOb lo j) ∧ atOwnOb (lo.set i x) i = x :=
  ⟨fun j hj => by simp [atOwnOb, show ¬ i = j from by omega], by simp [atOwnOb, show i < lo.length from by omega]⟩
theorem getD_set {α : Type} {l : List α} {x d : α} {i : Nat} (hi : i + 1 = l.length) : (∀ j, j < i → (l.set i x).getD j d = l.getD j d) ∧ (l.set i x).getD i d = x :=
  ⟨fun j hj => by simp [show ¬ i = j from by omega], by simp [show i < l.length from by omega]⟩
theorem lastO_sn {os : List OD} {o : OD} {f : OD → OD} : lastO (os ++ [o]) f = os ++ [f o] := by simp [lastO]
theorem lastO_set {os : List OD} {i : Nat} (hi : i + 1 = os.length) (f : OD → OD) : lastO os f = os.set i (f (os.getD i zO)) := by
  have hne : os ≠ [] := fun e => by rw [e] at hi; simp at hi
  obtain ⟨pre, o, rfl⟩ : ∃ pre o, os = pre ++ [o] := ⟨os.dropLast, os.getLast hne, (List.dropLast_concat_getLast hne).symm⟩
  have e : i = pre.length := by simp at hi; exact hi
  subst e
  rw [lastO_sn, getD_app.2]
  simp
theorem RSt.data {w wr : World} {g co : Nat} {ts : List TD} {os : List OD} {vt : Value} {lt : List ThrV} {lo : List ObjV} {l : List UInt8} (h : RSt w wr ts os vt (.slice (some ⟨g, 0, none⟩) lo.length co) lt lo) {i : Nat} (hi : i + 1 = lo.length) (hl : l.length ≤ 1048576) :
    ∃ lo', lo'.length = lo.length ∧ RSt w (wr.setCell ⟨g, i * 10 + 5, none⟩ (.string (bytesOf l))) ts (lastO os fun o => { o with data := l }) vt (.slice (some ⟨g, 0, none⟩) lo'.length co) lt lo' := by
  have hi' : i < lo.length := by omega
  have hio : i + 1 = os.length := by rw [← h.lO]; exact hi
  obtain ⟨cur, hcur⟩ : ∃ cur, Blk wr g (.cells cur 45) := by
    rcases h.st.o.2 with ⟨hv, _⟩ | ⟨g', cap, cur, hv, _, hgg, _⟩
    · cases hv
    · cases hv; exact ⟨cur, hgg⟩
  have hBg : w.heap.size ≤ g := (World.ownsRow.lt h.st.o g rfl).1
  have kl := keeps_set (i := i * 10 + 5) hcur (by decide) (.string (bytesOf l))
  have ng : ∀ {P : Nat} {cs : Array Value}, Blk wr P (.cells cs 25) → g ≠ P := fun {P cs} hb e => by
    subst e
    unfold Blk at hb hcur
    rw [hcur] at hb
    simp at hb
  let x : ObjV := { lo[i] with data := bytesOf l }
  have ho := (World.ownsRow.stored h.st.o (i * 10 + 5) (.string (bytesOf l))).1
  have el : (lo.set i x).length = lo.length := by simp
  have lo_on : ∀ y ∈ lo.set i x, y = x ∨ y ∈ lo := fun y hy => by
    rcases List.mem_or_eq_of_mem_set hy with h | h
    · exact .inr h
    · exact .inl h
  have hx0 := h.st.on lo[i] (List.getElem_mem hi')
  have hc0 := h.st.oc lo[i] (List.getElem_mem hi')
  refine ⟨lo.set i x, el, ⟨⟨h.st.t.set hcur (by decide) _, ?_, fun y hy => (h.st.tn y hy).keeps kl, fun y hy => ?_, h.st.tc, fun y hy => ?_⟩, h.lT, h.sT, ?_, ?_, ?_, ?_, h.r.other (ng h.r) _, by rw [el]; exact h.k.other (ng h.k) _, h.be.setCell hBg _⟩⟩
  · unfold OwnOb
    rw [el]
    have e := flat_set (f := ObjV.cs) ObjV.cs_len (l := lo) (t := i) (i := 5) (x := x) (u := .string (bytesOf l)) hi' (by omega) rfl
    unfold cells10
    rw [← e]
    exact ho
  · rcases lo_on y hy with rfl | hy
    · exact ObjV.new.keeps (t := x) (show ObjV.new _ _ x from hx0) kl
    · exact (h.st.on y hy).keeps kl
  · rcases lo_on y hy with rfl | hy
    · exact hc0
    · exact h.st.oc y hy
  · rw [el, lastO_set hio, List.length_set]; exact h.lO
  · intro j hj
    rw [lastO_set hio, List.length_set] at hj
    rw [lastO_set hio]
    by_cases e : j < i
    · rw [(getD_set hio).1 j e, (last_set hi).1 j e]; exact h.sO j hj
    · have ej : j = i := by omega
      subst ej
      rw [(getD_set hio).2, (last_set hi).2]
      have s := h.sO j hj
      rw [atO_get hi'] at s
      obtain ⟨s1, s2, s3, s4, s5, _, s7⟩ := s
      exact ⟨s1, s2, s3, s4, s5, rfl, s7⟩
  · intro y hy
    rw [lastO_set hio] at hy
    rcases List.mem_or_eq_of_mem_set hy with hy | rfl
    · exact h.dz y hy
    · exact hl
  · intro j hj
    rw [el] at hj
    have ej : j = i := by omega
    subst ej
    obtain ⟨M, m1, m0, m2, m3⟩ := h.last j hi
    refine ⟨M, m1, Nat.le_trans m0 kl.size, fun k hk b hb hn => ?_, ?_⟩
    · rw [(last_set hi).1 k hk] at hb hn
      exact m2 k hk b hb hn
    · rw [(last_set hi).2, lastO_set hio, (getD_set hio).2]
      rw [atO_get hi'] at m3
      exact m3.keeps kl
theorem RSt.item {w wr w' : World} {g co q c : Nat} {ts : List TD} {os : List OD} {vt : Value} {lt : List ThrV} {lo : List ObjV} {l : List UInt8} (h : RSt w wr ts os vt (.slice (some ⟨g, 0, none⟩) lo.length co) lt lo) {i M : Nat} (hi : i + 1 = lo.length) (hl : l.length ≤ 1048576) (hz : ∀ y ∈ (os.getD i zO).items, y.length ≤ 1048576) (hn : (os.getD i zO).items.length < 1048576)
    (hM : w.heap.size ≤ M) (hM0 : M ≤ wr.heap.size) (hB : ∀ j, j < i → ∀ b, (atOwnOb lo j).items.a = some ⟨b, 0, none⟩ → 0 < (atOwnOb lo j).items.n → b < M) (hO : OwnS wr M (atOwnOb lo i).items.val (os.getD i zO).items)
    (hO' : OwnS w' M (.slice (some ⟨q, 0, none⟩) ((os.getD i zO).items.length + 1) c) ((os.getD i zO).items ++ [l])) (hg : wr.grownBy w' (atOwnOb lo i).items.val.ownBlock) :
    ∃ lo', lo'.length = lo.length ∧ RSt w (w'.setCell ⟨g, i * 10 + 6, none⟩ (.slice (some ⟨q, 0, none⟩) ((os.getD i zO).items.length + 1) c)) ts (lastO os fun o => { o with items := o.items ++ [l] }) vt (.slice (some ⟨g, 0, none⟩) lo'.length co) lt lo' := by
  have hi' : i < lo.length := by omega
  have hio : i + 1 = os.length := by rw [← h.lO]; exact hi
  -- what the append leaves
  have keep : ∀ {k : Nat} {cs : Array Value} {t : TypeId}, wr.heap[k]? = some (Obj.cells cs t (0, 0)) → t ≠ 9 → w'.heap[k]? = wr.heap[k]? := fun {k cs t} hk ht => hg.block k (Array.getElem?_eq_some_iff.1 hk).1 (fun e => by
    rcases hO.2 with ⟨hv, _⟩ | ⟨g', cap', cur', hv', _, hgg', _⟩
    · rw [hv] at e; cases e
    · rw [hv'] at e
      cases e
      rw [hgg'] at hk
      simp only [Option.some.injEq, Obj.cells.injEq, and_true] at hk
      exact ht hk.2.symm)
  have kT : OwnT w' w.heap.size vt lt := by
    refine ⟨h.st.t.1, ?_⟩
    rcases h.st.t.2 with hn | ⟨g0, cap, cur, hv, hbg, hgg, rest⟩
    · exact .inl hn
    · exact .inr ⟨g0, cap, cur, hv, hbg, (keep hgg (by decide)).trans hgg, rest⟩
  have kO : OwnOb w' w.heap.size (.slice (some ⟨g, 0, none⟩) lo.length co) lo := by
    refine ⟨h.st.o.1, ?_⟩
    rcases h.st.o.2 with hn | ⟨g0, cap, cur, hv, hbg, hgg, rest⟩
    · exact .inl hn
    · exact .inr ⟨g0, cap, cur, hv, hbg, (keep hgg (by decide)).trans hgg, rest⟩
  have sz := hg.size
  have catK : ∀ {c : CatL}, c.new w.heap.size wr → c.new w.heap.size w' := fun {c} hc => hc.over sz (fun b m F hr => by obtain ⟨cs, hh⟩ := keep_row hr; exact keep hh (by decide))
  have intK : ∀ {c : IntL}, c.new w.heap.size wr → c.new w.heap.size w' := fun {c} hc => hc.over sz (fun b m F hr => by obtain ⟨cs, hh⟩ := keep_row hr; exact keep hh (by decide))
  obtain ⟨cur, hcur⟩ : ∃ cur, Blk w' g (.cells cur 45) := by
    rcases kO.2 with ⟨hv, _⟩ | ⟨g', cap, cur, hv, _, hgg, _⟩
    · cases hv
    · cases hv; exact ⟨cur, hgg⟩
  have hBg : w.heap.size ≤ g := (World.ownsRow.lt h.st.o g rfl).1
  have kl := keeps_set (i := i * 10 + 6) hcur (by decide) (.slice (some ⟨q, 0, none⟩) ((os.getD i zO).items.length + 1) c)
  have kr : Blk w' w.heap.size (.cells #[.slice none 0 0, .slice none 0 0] 25) := (keep h.r (by decide)).trans h.r
  have kk : Blk w' (w.heap.size + 1) (.cells #[vt, .slice (some ⟨g, 0, none⟩) lo.length co] 25) := (keep h.k (by decide)).trans h.k
  have ng : ∀ {P : Nat} {cs : Array Value}, Blk w' P (.cells cs 25) → g ≠ P := fun {P cs} hb e => by
    subst e
    unfold Blk at hb hcur
    rw [hcur] at hb
    simp at hb
  have elen : ((os.getD i zO).items ++ [l]).length = (os.getD i zO).items.length + 1 := by simp
  let it : StrL := ⟨some ⟨q, 0, none⟩, (os.getD i zO).items.length + 1, c, fun j => bytesOf (((os.getD i zO).items ++ [l]).getD j [])⟩
  have hit : it.new M w' := by
    have := OwnS.str (w := w') (B := M) (a := some ⟨q, 0, none⟩) (c := c) (l := (os.getD i zO).items ++ [l]) (by rw [elen]; exact hO') (by rw [elen]; omega) (fun y hy => by
      rcases List.mem_append.1 hy with hy | hy
      · exact hz y hy
      · rw [List.mem_singleton.1 hy]; exact hl)
    rw [elen] at this
    exact this
  have hroom : it.n ≤ it.k ∧ it.k ≤ maxLen := own_room (by
    have := hO'
    unfold OwnS at this
    rw [elen] at this
    exact this)
  let x : ObjV := { lo[i] with items := it }
  have ho := (World.ownsRow.stored kO (i * 10 + 6) (.slice (some ⟨q, 0, none⟩) ((os.getD i zO).items.length + 1) c)).1
  have el : (lo.set i x).length = lo.length := by simp
  have hx0 := h.st.on lo[i] (List.getElem_mem hi')
  have lo_on : ∀ y ∈ lo.set i x, y = x ∨ ∃ j, j < i ∧ y = atOwnOb lo j := fun y hy => by
    obtain ⟨j, hj, rfl⟩ := List.getElem_of_mem hy
    rw [el] at hj
    by_cases e : j = i
    · subst e; exact .inl (by simp)
    · refine .inr ⟨j, by omega, ?_⟩
      rw [atO_get hj]
      simp [show ¬ i = j from by omega]
  have others : ∀ j, j < i → (atOwnOb lo j).new w.heap.size w' := fun j hj => by
    have hj' : j < lo.length := by omega
    have hb := hB j hj
    rw [atO_get hj'] at hb ⊢
    have hn := h.st.on lo[j] (List.getElem_mem hj')
    refine ⟨catK hn.1, ?_, intK hn.2.2.1, catK hn.2.2.2⟩
    refine hn.2.1.of sz (fun b e h0 => hg.block b ?_ (fun e' => ?_))
    · obtain ⟨b', m, F, e2, _, _, hr⟩ := hn.2.1.2 h0
      rw [e] at e2
      cases e2
      exact hr.lt
    · have := (World.ownsRow.lt hO b e'.symm).1
      have := hb b e h0
      omega
  refine ⟨lo.set i x, el, ⟨⟨kT.set hcur (by decide) _, ?_, fun y hy => ?_, fun y hy => ?_, h.st.tc, fun y hy => ?_⟩, h.lT, h.sT, ?_, ?_, ?_, ?_, kr.other (ng kr) _, ?_, (h.be.trans (below_grown hg h.be.size (fun j e => Nat.le_trans hM (own_low hO j e)))).setCell hBg _⟩⟩
  · unfold OwnOb
    rw [el]
    have e := flat_set (f := ObjV.cs) ObjV.cs_len (l := lo) (t := i) (i := 6) (x := x) (u := .slice (some ⟨q, 0, none⟩) ((os.getD i zO).items.length + 1) c) hi' (by omega) rfl
    unfold cells10
    rw [← e]
    exact ho
  · have hn := h.st.tn y hy
    exact ThrV.new.keeps (⟨catK hn.1, catK hn.2.1, intK hn.2.2⟩ : y.new w.heap.size w') kl
  · rcases lo_on y hy with rfl | ⟨j, hj, rfl⟩
    · exact ObjV.new.keeps (t := x) (⟨catK hx0.1, hit.low hM, intK hx0.2.2.1, catK hx0.2.2.2⟩ : ObjV.new _ _ x) kl
    · exact (others j hj).keeps kl
  · rcases lo_on y hy with rfl | ⟨j, hj, rfl⟩
    · exact hroom
    · rw [atO_get (show j < lo.length from by omega)]; exact h.st.oc _ (List.getElem_mem _)
  · rw [el, lastO_set hio, List.length_set]; exact h.lO
  · intro j hj
    rw [lastO_set hio, List.length_set] at hj
    rw [lastO_set hio]
    by_cases e : j < i
    · rw [(getD_set hio).1 j e, (last_set hi).1 j e]; exact h.sO j hj
    · have ej : j = i := by omega
      subst ej
      rw [(getD_set hio).2, (last_set hi).2]
      have s := h.sO j hj
      rw [atO_get hi'] at s
      obtain ⟨s1, s2, s3, s4, s5, s6, _, s8⟩ := s
      exact ⟨s1, s2, s3, s4, s5, s6, ⟨elen.symm, rfl⟩, s8⟩
  · intro y hy
    rw [lastO_set hio] at hy
    rcases List.mem_or_eq_of_mem_set hy with hy | rfl
    · exact h.dz y hy
    · exact h.dz (os.getD i zO) (by simp [show i < os.length from by omega])
  · intro j hj
    rw [el] at hj
    have ej : j = i := by omega
    subst ej
    refine ⟨M, hM, Nat.le_trans hM0 (Nat.le_trans sz kl.size), fun k hk b hb hn => ?_, ?_⟩
    · rw [(last_set hi).1 k hk] at hb hn
      exact hB k hk b hb hn
    · rw [(last_set hi).2, lastO_set hio, (getD_set hio).2]
      exact hO'.keeps kl
  · rw [el]; exact kk.other (ng kk) _
end Go.Proofs.YtjceaajnemgheaaGreatDoor
