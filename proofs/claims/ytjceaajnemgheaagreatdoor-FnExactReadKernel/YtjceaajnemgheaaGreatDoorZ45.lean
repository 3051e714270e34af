/- The reader of the program: the kernel while it is read. -/
import Derived.Test.YtjceaajnemgheaaGreatDoorRT5
import Derived.Test.YtjceaajnemgheaaGreatDoorRS6
import Derived.Test.YtjceaajnemgheaaGreatDoorRM2
namespace Go.Proofs.YtjceaajnemgheaaGreatDoor
open Go Go.RowKit Go.Deep Go.Maps

theorem CatL.new.past {B P : Nat} {w w' : World} {c : CatL} (h : c.new B w) (hg : w.grownBy w' (some P)) (hP : P < B) : c.new B w' := h.of hg.size (fun b e h0 => by
  obtain ⟨b', m, F, e', h1, _, hr⟩ := h.2 h0
  rw [e] at e'
  cases e'
  exact hg.block b hr.lt (fun e => by have := Option.some.inj e; omega))
theorem IntL.new.past {B P : Nat} {w w' : World} {c : IntL} (h : c.new B w) (hg : w.grownBy w' (some P)) (hP : P < B) : c.new B w' := h.of hg.size (fun b e h0 => by
  obtain ⟨b', m, F, e', h1, _, hr⟩ := h.2 h0
  rw [e] at e'
  cases e'
  exact hg.block b hr.lt (fun e => by have := Option.some.inj e; omega))
theorem StrL.new.past {B P : Nat} {w w' : World} {c : StrL} (h : c.new B w) (hg : w.grownBy w' (some P)) (hP : P < B) : c.new B w' := h.of hg.size (fun b e h0 => by
  obtain ⟨b', m, F, e', h1, _, hr⟩ := h.2 h0
  rw [e] at e'
  cases e'
  exact hg.block b hr.lt (fun e => by have := Option.some.inj e; omega))
theorem KSt.past {w w' : World} {B P : Nat} {vt vo : Value} {lt : List ThrV} {lo : List ObjV} (h : KSt w B vt vo lt lo) (hg : w.grownBy w' (some P)) (hP : P < B) : KSt w' B vt vo lt lo := by
  have ne : ∀ {ty sz n : Nat} {v : Value} {cs : List Value}, w.ownsRow B ty sz v n cs → v.ownBlock = none ∨ v.ownBlock ≠ some P := fun {ty sz n v cs} ho => .inr (fun e => by have := (World.ownsRow.lt ho P e).1; omega)
  exact ⟨World.ownsRow.kept h.t hg (ne h.t), World.ownsRow.kept h.o hg (ne h.o), fun x hx => ⟨(h.tn x hx).1.past hg hP, (h.tn x hx).2.1.past hg hP, (h.tn x hx).2.2.past hg hP⟩, fun x hx => ⟨(h.on x hx).1.past hg hP, (h.on x hx).2.1.past hg hP, (h.on x hx).2.2.1.past hg hP, (h.on x hx).2.2.2.past hg hP⟩, h.tc, h.oc⟩
structure Apart (lt : List ThrV) (lo : List ObjV) : Prop where
  c : ((lt.map ThrV.cb).flatten ++ (lo.map ObjV.cb).flatten).Nodup
  i : ((lt.map fun x => x.own.bs).flatten ++ (lo.map fun x => x.own.bs).flatten).Nodup
  s : ((lo.map fun x => x.items.bs).flatten).Nodup
theorem Apart.nil : Apart [] [] := ⟨by simp, by simp, by simp⟩
theorem KSt.low3 {w : World} {B : Nat} {vt vo : Value} {lt : List ThrV} {lo : List ObjV} (h : KSt w B vt vo lt lo) : (∀ b ∈ (lt.map ThrV.cb).flatten ++ (lo.map ObjV.cb).flatten, b < w.heap.size) ∧ (∀ b ∈ (lt.map fun x => x.own.bs).flatten ++ (lo.map fun x => x.own.bs).flatten, b < w.heap.size) ∧ (∀ b ∈ (lo.map fun x => x.items.bs).flatten, b < w.heap.size) := by
  refine ⟨fun b hb => ?_, fun b hb => ?_, fun b hb => ?_⟩
  · rcases List.mem_append.1 hb with hb | hb
    · obtain ⟨l, hl, hb⟩ := List.mem_flatten.1 hb
      obtain ⟨x, hx, rfl⟩ := List.mem_map.1 hl
      rcases List.mem_append.1 hb with hb | hb
      · exact ((h.tn x hx).1.bs.2 b hb).2
      · exact ((h.tn x hx).2.1.bs.2 b hb).2
    · obtain ⟨l, hl, hb⟩ := List.mem_flatten.1 hb
      obtain ⟨x, hx, rfl⟩ := List.mem_map.1 hl
      rcases List.mem_append.1 hb with hb | hb
      · exact ((h.on x hx).1.bs.2 b hb).2
      · exact ((h.on x hx).2.2.2.bs.2 b hb).2
  · rcases List.mem_append.1 hb with hb | hb
    · obtain ⟨l, hl, hb⟩ := List.mem_flatten.1 hb
      obtain ⟨x, hx, rfl⟩ := List.mem_map.1 hl
      exact ((h.tn x hx).2.2.bs.2 b hb).2
    · obtain ⟨l, hl, hb⟩ := List.mem_flatten.1 hb
      obtain ⟨x, hx, rfl⟩ := List.mem_map.1 hl
      exact ((h.on x hx).2.2.1.bs.2 b hb).2
  · obtain ⟨l, hl, hb⟩ := List.mem_flatten.1 hb
    obtain ⟨x, hx, rfl⟩ := List.mem_map.1 hl
    exact ((h.on x hx).2.1.bs.2 b hb).2
theorem Apart.addT {w w' : World} {B M : Nat} {vt vo : Value} {lt : List ThrV} (h : Apart lt []) (hk : KSt w B vt vo lt []) {x : ThrV} (hx : x.new M w') (hM : w.heap.size ≤ M) (hn : x.cb.Nodup) : Apart (lt ++ [x]) [] := by
  obtain ⟨k1, k2, _⟩ := hk.low3
  refine ⟨?_, ?_, by simp⟩
  · have := nodup_two (M := w.heap.size) (l2 := x.cb) (by simpa using h.c) hn (by simpa using k1) (fun b hb => by
      rcases List.mem_append.1 hb with hb | hb
      · exact Nat.le_trans hM (hx.1.bs.2 b hb).1
      · exact Nat.le_trans hM (hx.2.1.bs.2 b hb).1)
    simpa using this
  · have := nodup_two (M := w.heap.size) (l2 := x.own.bs) (by simpa using h.i) hx.2.2.bs.1 (by simpa using k2) (fun b hb => Nat.le_trans hM (hx.2.2.bs.2 b hb).1)
    simpa using this
theorem Apart.addO {w w' : World} {B M : Nat} {vt vo : Value} {lt : List ThrV} {lo : List ObjV} (h : Apart lt lo) (hk : KSt w B vt vo lt lo) {x : ObjV} (hx : x.new M w') (hM : w.heap.size ≤ M) (hn : x.cb.Nodup) : Apart lt (lo ++ [x]) := by
  obtain ⟨k1, k2, k3⟩ := hk.low3
  refine ⟨?_, ?_, ?_⟩
  · have := nodup_two (M := w.heap.size) (l2 := x.cb) h.c hn k1 (fun b hb => by
      rcases List.mem_append.1 hb with hb | hb
      · exact Nat.le_trans hM (hx.1.bs.2 b hb).1
      · exact Nat.le_trans hM (hx.2.2.2.bs.2 b hb).1)
    simpa [List.append_assoc] using this
  · have := nodup_two (M := w.heap.size) (l2 := x.own.bs) h.i hx.2.2.1.bs.1 k2 (fun b hb => Nat.le_trans hM (hx.2.2.1.bs.2 b hb).1)
    simpa [List.append_assoc] using this
  · have := nodup_two (M := w.heap.size) (l2 := x.items.bs) h.s hx.2.1.bs.1 k3 (fun b hb => Nat.le_trans hM (hx.2.1.bs.2 b hb).1)
    simpa using this
structure ISt (u : TypeId) (pv : Value) (W wr : World) (rb : Nat) (ts : List TD) (os : List OD) (vt vo : Value) (lt : List ThrV) (lo : List ObjV) (Q : List UInt8) : Prop where
  st : KSt wr W.heap.size vt vo lt lo
  lT : lt.length = ts.length
  sT : ∀ i, i < ts.length → (ts.getD i zT).v.same (atOwnT lt i)
  lO : lo.length = os.length
  sO : ∀ i, i < os.length → (os.getD i zO).v.same (atOwnOb lo i)
  dz : ∀ d ∈ os, d.data.length ≤ 1048576 ∧ inN d.id ∧ inN d.up
  ap : Apart lt lo
  z : Blk wr W.heap.size (.cells #[.slice none 0 0, .slice none 0 0] 25)
  k : Blk wr (W.heap.size + 1) (.cells #[vt, vo] 25)
  r : Rdr wr rb Q
  e : Err u pv wr
  g : W.grownBy wr (some rb)
section
variable {u : TypeId} {pv : Value} {W wr w' : World} {rb : Nat} {ts : List TD} {os : List OD} {vt vo v : Value} {lt : List ThrV} {lo : List ObjV} {Q Q' : List UInt8}
theorem ISt.read (h : ISt u pv W wr rb ts os vt vo lt lo Q) (hg : wr.grownBy w' (some rb)) (hR : Rdr w' rb Q') (hr : rb < W.heap.size) (h0 : rb ≠ 0) : ISt u pv W w' rb ts os vt vo lt lo Q' :=
  ⟨h.st.past hg hr, h.lT, h.sT, h.lO, h.sO, h.dz, h.ap, h.z.grown hg (fun e => by have := Option.some.inj e; omega), h.k.grown hg (fun e => by have := Option.some.inj e; omega), hR, h.e.grown hg h0, grown_same h.g hg⟩
theorem ISt.below (h : ISt u pv W wr rb ts os vt vo lt lo Q) (hb : Below wr.heap.size wr w') : ISt u pv W w' rb ts os vt vo lt lo Q :=
  ⟨h.st.below hb, h.lT, h.sT, h.lO, h.sO, h.dz, h.ap, h.z.below hb, h.k.below hb, h.r.below hb, h.e.below hb, grown_same h.g (belowOnly hb _)⟩
theorem ISt.size (h : ISt u pv W wr rb ts os vt vo lt lo Q) : W.heap.size + 1 < wr.heap.size := h.k.lt
theorem grown_own {a b c : World} {row : Option Nat} {B : Nat} {o : Option Nat} (h : a.grownBy b row) (k : b.grownBy c o) (ho : ∀ j, o = some j → B ≤ j) (hB : a.heap.size ≤ B) : a.grownBy c row :=
  ⟨k.os.trans h.os, k.tape.trans h.tape, k.output.trans h.output, Nat.le_trans h.size k.size, fun j hj hne => (k.block j (Nat.lt_of_lt_of_le hj h.size) (fun e => by have := ho j (by first | exact e | exact e.symm); omega)).trans (h.block j hj hne)⟩
theorem ISt.addT {x : ThrV} {d : TD} {M : Nat} {w0 : World} (h : ISt u pv W wr rb ts [] vt vo lt [] Q) (h0 : KSt w0 W.heap.size vt vo lt []) (hM : w0.heap.size ≤ M) (ho : OwnT w' W.heap.size v (lt ++ [x])) (hg : wr.grownBy w' vt.ownBlock) (hx : x.new M wr) (hB : W.heap.size ≤ M) (hs : d.v.same x) (hc : x.own.n ≤ x.own.k ∧ x.own.k ≤ maxLen) (hn : x.cb.Nodup) (hr : rb < W.heap.size) (hW : 0 < W.heap.size) :
    Blk w' (W.heap.size + 1) (.cells #[vt, vo] 25) ∧ ISt u pv W (w'.setCell ⟨W.heap.size + 1, 0, none⟩ v) rb (ts ++ [d]) [] v vo (lt ++ [x]) [] Q := by
  obtain ⟨k1, kk⟩ := h.st.addT ho hg (hx.low hB) hc
  have kb := kk.blk h.k (by decide) (by decide)
  have kz := kk.blk h.z (by decide) (by decide)
  have kr : Rdr w' rb Q := kk.blk h.r (by decide) (by decide)
  have low := own_low h.st.t
  have e0 : w'.heap[0]? = wr.heap[0]? := hg.block 0 h.e.2 (fun e => by have := low 0 (by first | exact e | exact e.symm); omega)
  refine ⟨kb, ⟨k1.setK kb v, by simp [h.lT], fun i hi => ?_, h.lO, h.sO, h.dz, h.ap.addT h0 hx hM hn, kz.other (by omega) _, kb.setAt (i := 0) v, Blk.other kr (by omega) _, ⟨?_, ?_⟩, grown_new (grown_own h.g hg low (Nat.le_refl _)) (by omega) _ _⟩⟩
  · by_cases e : i < ts.length
    · rw [getD_app.1 i e, atT_append.1 i (by rw [h.lT]; exact e)]; exact h.sT i e
    · have ei : i = ts.length := by simp at hi; omega
      rw [ei, getD_app.2, ← h.lT, atT_append.2]; exact hs
  · have e1 : (w'.setCell ⟨W.heap.size + 1, 0, none⟩ v).heap[0]? = w'.heap[0]? := Below.heap_setCell _ _ _ _ (by show 0 ≠ W.heap.size + 1; omega)
    rw [← h.e.1]
    unfold World.cell?
    rw [e1, e0]
  · have := h.e.2
    have := hg.size
    simp only [nblk_setCell]
    omega
theorem ISt.addO {x : ObjV} {d : OD} {M : Nat} {w0 : World} (h : ISt u pv W wr rb ts os vt vo lt lo Q) (h0 : KSt w0 W.heap.size vt vo lt lo) (hM : w0.heap.size ≤ M) (ho : OwnOb w' W.heap.size v (lo ++ [x])) (hg : wr.grownBy w' vo.ownBlock) (hx : x.new M wr) (hB : W.heap.size ≤ M) (hs : d.v.same x) (hc : x.items.n ≤ x.items.k ∧ x.items.k ≤ maxLen) (hn : x.cb.Nodup) (hd : d.data.length ≤ 1048576 ∧ inN d.id ∧ inN d.up) (hr : rb < W.heap.size) (hW : 0 < W.heap.size) :
    Blk w' (W.heap.size + 1) (.cells #[vt, vo] 25) ∧ ISt u pv W (w'.setCell ⟨W.heap.size + 1, 1, none⟩ v) rb ts (os ++ [d]) vt v lt (lo ++ [x]) Q := by
  obtain ⟨k1, kk⟩ := h.st.addO ho hg (hx.low hB) hc
  have kb := kk.blk h.k (by decide) (by decide)
  have kz := kk.blk h.z (by decide) (by decide)
  have kr : Rdr w' rb Q := kk.blk h.r (by decide) (by decide)
  have low := own_low h.st.o
  have e0 : w'.heap[0]? = wr.heap[0]? := hg.block 0 h.e.2 (fun e => by have := low 0 (by first | exact e | exact e.symm); omega)
  refine ⟨kb, ⟨k1.setK kb v, h.lT, h.sT, by simp [h.lO], fun i hi => ?_, fun y hy => ?_, h.ap.addO h0 hx hM hn, kz.other (by omega) _, kb.setAt (i := 1) v, Blk.other kr (by omega) _, ⟨?_, ?_⟩, grown_new (grown_own h.g hg low (Nat.le_refl _)) (by omega) _ _⟩⟩
  · by_cases e : i < os.length
    · rw [getD_app.1 i e, atO_append.1 i (by rw [h.lO]; exact e)]; exact h.sO i e
    · have ei : i = os.length := by simp at hi; omega
      rw [ei, getD_app.2, ← h.lO, atO_append.2]; exact hs
  · rcases List.mem_append.1 hy with hy | hy
    · exact h.dz y hy
    · rw [List.mem_singleton.1 hy]; exact hd
  · have e1 : (w'.setCell ⟨W.heap.size + 1, 1, none⟩ v).heap[0]? = w'.heap[0]? := Below.heap_setCell _ _ _ _ (by show 0 ≠ W.heap.size + 1; omega)
    rw [← h.e.1]
    unfold World.cell?
    rw [e1, e0]
  · have := h.e.2
    have := hg.size
    simp only [nblk_setCell]
    omega
end
theorem strT_fuel : ∀ (n m : Nat) (ts : List TD) (R : List UInt8), R.length < n → R.length < m → strT n ts R = strT m ts R
  | 0, _, _, _, h, _ => by omega
  | _, 0, _, _, _, h => by omega
  | n + 1, m + 1, ts, R, h1, h2 => by
    rw [strT, strT]
    cases ht : takesL thrW R with
    | none => rfl
    | some Q =>
      have := takes_len ht
      have := @cut10_len Q
      simp only
      cases hs : thrS (wordsL (cutL 10 Q).1) with
      | none => rfl
      | some t =>
        simp only
        rw [strT_fuel n m _ _ (by omega) (by omega)]
def sTh (ts : List TD) (R : List UInt8) : Option (List TD × List UInt8) := strT (R.length + 1) ts R
theorem sTh_end {ts : List TD} {R : List UInt8} (h : takesL thrW R = none) : sTh ts R = some (ts, R) := by unfold sTh; rw [strT, h]
theorem sTh_open {ts : List TD} {R Q : List UInt8} (h : takesL thrW R = some Q) (hf : (cutL 10 Q).2.2 = false) : sTh ts R = none := by unfold sTh; rw [strT, h]; simp [hf]
theorem sTh_bad {ts : List TD} {R Q : List UInt8} (h : takesL thrW R = some Q) (hf : (cutL 10 Q).2.2 = true) (hs : thrS (wordsL (cutL 10 Q).1) = none) : sTh ts R = none := by unfold sTh; rw [strT, h]; simp [hf, hs]
theorem sTh_more {ts : List TD} {R Q : List UInt8} {t : TD} (h : takesL thrW R = some Q) (hf : (cutL 10 Q).2.2 = true) (hs : thrS (wordsL (cutL 10 Q).1) = some t) : sTh ts R = sTh (ts ++ [t]) (cutL 10 Q).2.1 := by
  have e : sTh ts R = strT R.length (ts ++ [t]) (cutL 10 Q).2.1 := by
    unfold sTh
    rw [strT, h]
    simp only
    rw [if_pos hf, hs]
  rw [e]
  have := takes_len h
  have := @cut10_len Q
  exact strT_fuel _ _ _ _ (by omega) (Nat.lt_succ_self _)
theorem strOb_len {R : List UInt8} {p : OD × List UInt8} (h : strOb R = some p) : p.2.length < R.length := by
  rw [strOb_back h, List.length_append]
  have := oX_len p.1
  omega
theorem strO_fuel : ∀ (n m : Nat) (os : List OD) (R : List UInt8), R.length < n → R.length < m → strO n os R = strO m os R
  | 0, _, _, _, h, _ => by omega
  | _, 0, _, _, _, h => by omega
  | n + 1, m + 1, os, R, h1, h2 => by
    rw [strO, strO]
    cases ht : strOb R with
    | none => rfl
    | some p =>
      have := strOb_len ht
      simp only
      rw [strO_fuel n m _ _ (by omega) (by omega)]
def sOb (os : List OD) (R : List UInt8) : Option (List OD) := strO (R.length + 1) os R
theorem sOb_end {os : List OD} : sOb os [] = some os := by unfold sOb; rw [strO]; simp
theorem sOb_bad {os : List OD} {R : List UInt8} (h0 : R ≠ []) (h : strOb R = none) : sOb os R = none := by unfold sOb; rw [strO, if_neg h0, h]
theorem sOb_more {os : List OD} {R : List UInt8} {p : OD × List UInt8} (h0 : R ≠ []) (h : strOb R = some p) : sOb os R = sOb (os ++ [p.1]) p.2 := by
  have e : sOb os R = strO R.length (os ++ [p.1]) p.2 := by
    unfold sOb
    rw [strO, if_neg h0, h]
  rw [e]
  exact strO_fuel _ _ _ _ (strOb_len h) (Nat.lt_succ_self _)
theorem strK_s (L : List UInt8) : strK L = match sTh [] L with
  | none => none
  | some p => match sOb [] p.2 with
    | none => none
    | some os => if kerOk (kerD p.1 os) = true then some (p.1, os) else none := rfl
theorem strOb_in {R : List UInt8} {p : OD × List UInt8} (h : strOb R = some p) : inN p.1.id ∧ inN p.1.up := by
  unfold strOb at h
  split at h
  · cases h
  · split at h
    · split at h
      · cases h
      · rename_i o ho
        split at h
        · cases h
        · split at h
          · cases h
          · have := Option.some.inj h
            subst this
            unfold objS at ho
            split at ho
            · have := Option.some.inj ho
              subst this
              exact ⟨numM_in _, numM_in _⟩
            · cases ho
    · cases h
end Go.Proofs.YtjceaajnemgheaaGreatDoor
namespace Go.Proofs.YtjceaajnemgheaaGreatDoor
open Go Go.RowKit Go.Deep Go.Maps

theorem OMark.below {w w' : World} {t : ObjV} {s : Int} (h : OMark w t s) (hb : Below w.heap.size w w') : OMark w' t s := ⟨h.c1.below hb, h.it.below hb, h.ow.below hb, h.c2.below hb⟩
theorem TMark.below {w w' : World} {t : ThrV} {s : Int} (h : TMark w t s) (hb : Below w.heap.size w w') : TMark w' t s := ⟨h.c1.below hb, h.c2.below hb, h.ow.below hb⟩
set_option maxRecDepth 100000 in
set_option maxHeartbeats 8000000 in
theorem heldObjects_h (g n cap m : Nat) (T : Nat → ObjV) (k0 : Int) (w : World) (hn : n ≤ 1000) (hm : n * 10 ≤ m) (h0 : 1 ≤ k0) (h1 : k0 ≤ 1000000) (hz : OSmall n T) (hR : ∃ G, w.rowIs g 45 m G ∧ SlO G n T ∧ ∀ i, i < n → ONum G i (T i) (oSt T k0 i)) (hd : ∀ i, i < n → OMark w (T i) (oSt T k0 i)) :
    Calls Tryz.prog 21 #[.slice (some ⟨g, 0, none⟩) n cap, .int .i64 k0] w fun e w' => e = .returned (.int .i64 (oSt T k0 n)) ∧ Below w.heap.size w w' := by
  have HZ := hid hz
  have HD := hid hd
  have HR := hid hR
  clear hz hd hR
  go_enter Tryz.func21, Tryz.ntmps21
  go_wp2
  go_loopw [1, 5] (fun kk i wr => ∃ j : Nat, j ≤ n ∧ i = .int .i64 j ∧ kk = .int .i64 (oSt T k0 j) ∧ Below w.heap.size w wr) (fun _ i _ => n - (intOf i).toNat)
  case atStart => exact ⟨0, Nat.zero_le _, rfl, rfl, Below.refl _ _⟩
  case round =>
    obtain ⟨j, hj, rfl, rfl, hB⟩ := hrel
    obtain ⟨x0, x1⟩ := oSt_le (k0 := k0) HZ.out j hj
    by_cases hlt : j < n
    · have i1 : (j : Int) < (n : Int) := by omega
      obtain ⟨G, hRw0, hSl, hNu⟩ := HR.out
      have hRw := rowUp hRw0 hB
      obtain ⟨s1, s2, s3, s4⟩ := hSl j hlt
      obtain ⟨k1, k2, k3, k4⟩ := HZ.out j hlt
      obtain ⟨n0, n1, n2, n3, n5, n8⟩ := hNu j hlt
      have DD := hid ((HD.out j hlt).below hB)
      have es : Hid (oSt T k0 (j + 1) = oSt T k0 j + (T j).ml) := hid rfl
      have RR := hid hRw
      have z0 := hRw.cell (i := j * 10) (by omega)
      have z1 := hRw.cell (i := j * 10 + 1) (by omega)
      have z2 := hRw.cell (i := j * 10 + 2) (by omega)
      have z3 := hRw.cell (i := j * 10 + 3) (by omega)
      have z4 := hRw.cell (i := j * 10 + 4) (by omega)
      rw [n0] at z0
      rw [n1] at z1
      rw [n2] at z2
      rw [n3] at z3
      rw [s1] at z4
      unfold CatL.val at z4
      generalize oSt T k0 j = x at *
      have e1 : x + 1 + 1 + 1 + 1 = x + 4 := by omega
      have e2 : x + 1 + 1 = x + 2 := by omega
      have e3 : x + 1 + 1 + 1 = x + 3 := by omega
      have C1 := hid (heldCatS_any (T j).c1.a (T j).c1.n (T j).c1.k (x + 1 + 1 + 1 + 1) wr (by omega) (by omega) (by omega) (by rw [e1]; exact DD.out.c1))
      rw [← e2] at z2
      rw [← e3] at z3
      clear hRw0 hRw hSl hNu e1 e2 e3 n0 n1 n2 n3
      go_wp2_with fail
      refine C1.out.mono ?_
      rintro e w2 ⟨rfl, rfl⟩
      have p1 : ¬ x + 1 + 1 + 1 + 1 + 2 * ((T j).c1.n : Int) < 0 := by omega
      have hrr := RR.out
      have z5 := hrr.cell (i := j * 10 + 5) (by omega)
      rw [n5] at z5
      rw [show x + 1 + 1 + 1 + 1 + 2 * ((T j).c1.n : Int) = x + 4 + 2 * ((T j).c1.n : Int) from by omega] at p1 ⊢
      have gl := hrr.lt
      have u5 : ∀ p : Up w2, p.W.cell? ⟨g, j * 10 + 5, none⟩ = some (.string (txtM (x + 4 + 2 * ((T j).c1.n : Int)))) := fun p => (p.h.cell (p := ⟨g, j * 10 + 5, none⟩) gl).trans z5
      have MJ : Hid (∀ W, Calls Tryz.prog 39 #[.int .i64 (x + 4 + 2 * ((T j).c1.n : Int))] W fun e w' => e = .returned (.string (txtM (x + 4 + 2 * ((T j).c1.n : Int)))) ∧ Below W.heap.size W w') := hid (fun W => markText_m _ W (by omega) (by omega))
      clear C1 z0 z1 z2 z3 z4 z5 n5 hrr
      generalize txtM (x + 4 + 2 * ((T j).c1.n : Int)) = tx at *
      go_wp2
      refine wp_region_quiet_up (by kernel_rfl) (by kernel_rfl) ?_
      repeat (go_big_quiet_step (first | (go_at_call 39; exact up_of (MJ.out _))))
      refine wpQuiet_nil ?_
      rintro _ ⟨p, rfl⟩
      have hb3 := p.h
      generalize p.W = w3 at *
      have D3 := hid (DD.out.below hb3)
      have R3 := hid (rowUp RR.out hb3)
      have B3 := hid (then_ hB hb3)
      have hrr := R3.out
      have z6 := hrr.cell (i := j * 10 + 6) (by omega)
      rw [s2] at z6
      unfold StrL.val at z6
      have e4 : Hid (x + 4 + 2 * ((T j).c1.n : Int) + 1 = x + 5 + 2 * ((T j).c1.n : Int)) := hid (by omega)
      have C3 := hid (heldStr_t (T j).items (x + 4 + 2 * ((T j).c1.n : Int) + 1) w3 (by omega) (by omega) (by omega) (by rw [e4.out]; exact D3.out.it))
      clear u5 MJ DD RR hB hb3 s1 s2 hrr p1
      go_wp2_with fail
      refine C3.out.mono ?_
      rintro e w4 ⟨rfl, hb4⟩
      have D4 := hid (D3.out.below hb4)
      have R4 := hid (rowUp R3.out hb4)
      have B4 := hid (then_ B3.out hb4)
      have hrr := R4.out
      have z7 := hrr.cell (i := j * 10 + 7) (by omega)
      rw [s3] at z7
      unfold IntL.val at z7
      rw [e4.out]
      have p2 : ¬ x + 5 + 2 * ((T j).c1.n : Int) + ((T j).items.n : Int) < 0 := by omega
      have C4 := hid (heldInt64S_any (T j).own.a (T j).own.n (T j).own.k (x + 5 + 2 * ((T j).c1.n : Int) + ((T j).items.n : Int)) w4 (by omega) (by omega) (by omega) D4.out.ow)
      clear z6 C3 D3 R3 B3 hb4 hrr s3 e4
      go_wp2_with fail
      refine C4.out.mono ?_
      rintro e w5 ⟨rfl, rfl⟩
      have p3 : ¬ x + 5 + 2 * ((T j).c1.n : Int) + ((T j).items.n : Int) + ((T j).own.n : Int) < 0 := by omega
      have hrr := R4.out
      have z8 := hrr.cell (i := j * 10 + 8) (by omega)
      have z9 := hrr.cell (i := j * 10 + 9) (by omega)
      rw [n8] at z8
      rw [s4] at z9
      unfold CatL.val at z9
      have e5 : Hid (x + 5 + 2 * ((T j).c1.n : Int) + ((T j).items.n : Int) + ((T j).own.n : Int) + 1 = x + 6 + 2 * ((T j).c1.n : Int) + ((T j).items.n : Int) + ((T j).own.n : Int)) := hid (by omega)
      have C5 := hid (heldCatS_any (T j).c2.a (T j).c2.n (T j).c2.k (x + 5 + 2 * ((T j).c1.n : Int) + ((T j).items.n : Int) + ((T j).own.n : Int) + 1) w5 (by omega) (by omega) (by omega) (by rw [e5.out]; exact D4.out.c2))
      clear z7 C4 hrr n8 s4 p2
      go_wp2_with fail
      refine C5.out.mono ?_
      rintro e w6 ⟨rfl, rfl⟩
      rw [e5.out]
      have p4 : ¬ x + 6 + 2 * ((T j).c1.n : Int) + ((T j).items.n : Int) + ((T j).own.n : Int) + 2 * ((T j).c2.n : Int) < 0 := by omega
      have eu : x + 6 + 2 * ((T j).c1.n : Int) + ((T j).items.n : Int) + ((T j).own.n : Int) + 2 * ((T j).c2.n : Int) = oSt T k0 (j + 1) := by
        have := es.out
        unfold ObjV.ml at *
        omega
      clear C5 z8 z9 p3 e5
      go_wp2
      exact ⟨⟨j + 1, by omega, by go_num, by first | rfl | rw [eu], B4.out⟩, by simp [intOf]; omega⟩
    · have ej : n = j := by omega
      have i1 : ¬ (j : Int) < (n : Int) := by omega
      subst ej
      go_wp2
      go_ret
      exact ⟨rfl, hB⟩
end Go.Proofs.YtjceaajnemgheaaGreatDoor
