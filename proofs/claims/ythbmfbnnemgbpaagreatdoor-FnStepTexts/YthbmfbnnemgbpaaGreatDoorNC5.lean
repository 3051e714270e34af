/- l4Self: a thread that raises its label, by the model. -/
import Derived.Test.YthbmfbnnemgbpaaGreatDoorZ19
namespace Go.Proofs.YthbmfbnnemgbpaaGreatDoor
open Go Go.RowKit Go.Deep Go.Maps Go.BigFrame Go.Shelf
theorem self_results {F : Func} (tmps : Array Value) (W : World) (P n : Nat) (x y u v : Value) (hF : F.results = #[.cell n 42, .tmp (n + 1), .tmp (n + 2)]) (h : Blk W P (.cells #[x, y] 42)) (h2 : tmps[n]? = some (.pointer (some ⟨P, 0, none⟩))) (h3 : tmps[n + 1]? = some u) (h4 : tmps[n + 2]? = some v) :
 (results F tmps).run Tryz.prog W = .ok (.tuple #[.agg #[x, y], u, v]) W := by
 obtain ⟨z0, z1⟩ := h.two
 simp [results, hF, go_sem, h2, h3, h4, z0, z1]
theorem KSt.cell7 {w : World} {B g ca : Nat} {vo : Value} {lt : List ThrV} {lo : List ObjV} (h : KSt w B (.slice (some ⟨g, 0, none⟩) lt.length ca) vo lt lo) {t : Nat} (ht : t < lt.length) : Cells7 w g (t * 7) lt[t] ∧ g < w.heap.size := by
 obtain ⟨b, off, e, hlt, hc⟩ := h.t.lies (fun x hx => (h.tn x hx).at) (by omega)
 simp only [Option.some.injEq, Addr.mk.injEq, and_true] at e
 obtain ⟨rfl, rfl⟩ := e
 have h1 := (hc t ht).1
 have e1 : atOwnT lt t = lt[t] := by simp [atOwnT, ht]
 rw [e1, Nat.zero_add] at h1
 exact ⟨h1, hlt⟩
theorem KSt.cell10 {w : World} {B g co : Nat} {vt : Value} {lt : List ThrV} {lo : List ObjV} (h : KSt w B vt (.slice (some ⟨g, 0, none⟩) lo.length co) lt lo) {t : Nat} (ht : t < lo.length) (hd : ∀ x ∈ lo, x.data.size ≤ maxLen) : Cells10 w g (t * 10) lo[t] ∧ g < w.heap.size := by
 obtain ⟨b, off, e, hlt, hc⟩ := h.o.lies (fun x hx => ⟨(h.on x hx).1.1, (h.on x hx).2.1.1, (h.on x hx).2.2.1.1, (h.on x hx).2.2.2.1, hd x hx⟩) (by omega)
 simp only [Option.some.injEq, Addr.mk.injEq, and_true] at e
 obtain ⟨rfl, rfl⟩ := e
 have h1 := (hc t ht).1
 have e1 : atOwnOb lo t = lo[t] := by simp [atOwnOb, ht]
 rw [e1, Nat.zero_add] at h1
 exact ⟨h1, hlt⟩
theorem set_same {α : Type} {l : List α} {t : Nat} (ht : t < l.length) : l.set t l[t] = l := by
 refine List.ext_getElem (by simp) fun i h1 h2 => ?_
 rw [List.getElem_set]
 split
 ·rename_i e; subst e; rfl
 ·rfl
theorem KSt.setLab {w : World} {B g ca : Nat} {vo : Value} {lt : List ThrV} {lo : List ObjV} (h : KSt w B (.slice (some ⟨g, 0, none⟩) lt.length ca) vo lt lo) {t : Nat} {b : Int} {d : CatL} (ht : t < lt.length) {X : ThrV} (hX : X = lt[t]) (hd : d.new B w) :
 KSt ((w.setCell ⟨g, t * 7 + 1, none⟩ (.int .i64 b)).setCell ⟨g, t * 7 + 2, none⟩ (.slice d.a d.n d.k)) B (.slice (some ⟨g, 0, none⟩) lt.length ca) vo (lt.set t ⟨X.id, b, d, X.b2, X.c2, X.own, X.made⟩) lo ∧ (∃ cur, Blk w g (.cells cur 79)) ∧ B ≤ g := by
 have hn := h.tn _ (List.getElem_mem ht)
 have hc := h.tc _ (List.getElem_mem ht)
 rw [← hX] at hn hc
 obtain ⟨k1, ⟨cur, hcur⟩, hg⟩ := h.setT (x := ⟨X.id, b, X.c1, X.b2, X.c2, X.own, X.made⟩) (u := .int .i64 b) ht (i := 1) (by omega) (by rw [← hX]; rfl) hn hc
 have el : (lt.set t (⟨X.id, b, X.c1, X.b2, X.c2, X.own, X.made⟩ : ThrV)).length = lt.length := by simp
 have kl := keeps_set (i := t * 7 + 1) hcur (by decide) (.int .i64 b)
 have ht' : t < (lt.set t (⟨X.id, b, X.c1, X.b2, X.c2, X.own, X.made⟩ : ThrV)).length := by rw [el]; exact ht
 obtain ⟨k2, _, _⟩ := k1.setT (x := ⟨X.id, b, d, X.b2, X.c2, X.own, X.made⟩) (u := .slice d.a d.n d.k) ht' (i := 2) (by omega) (by rw [List.getElem_set_self]; rfl) ⟨hd.keeps kl, hn.2.1.keeps kl, hn.2.2.keeps kl⟩ hc
 rw [List.set_set] at k2
 have e2 : (lt.set t (⟨X.id, b, d, X.b2, X.c2, X.own, X.made⟩ : ThrV)).length = lt.length := by simp
 rw [e2] at k2
 exact ⟨k2, ⟨cur, hcur⟩, hg⟩
def RiseL (c : CatL) : Prop := ∀ j, j < c.n → ∀ i, i < j → c.f i < c.f j
def raiseB (x : ThrV) (s : StepV) : Bool := flowsB x.b1 x.c1.n x.c1.f x.c1.g x.own.n x.own.h s.b1 s.c1.n s.c1.f s.c1.g && flowsB s.b1 s.c1.n s.c1.f s.c1.g x.own.n x.own.h x.b2 x.c2.n x.c2.f x.c2.g
set_option maxRecDepth 100000 in
set_option maxHeartbeats 16000000 in
theorem l4Self_raise (lt : List ThrV) (lo : List ObjV) (g ca : Nat) (oa : Option Addr) (co B : Nat) (w : World) (st : KSt w B (.slice (some ⟨g, 0, none⟩) lt.length ca) (.slice oa lo.length co) lt lo) (hB : B ≤ w.heap.size) (t : Nat) (ht : t < lt.length) (X : ThrV) (hX : X = lt[t]) (xs : X.small) (s : StepV) (hs : s.at w) (hk : s.kind = 12) (hn1 : s.c1.n ≤ 1048576)
 (r1 : RiseL X.c1) (r2 : RiseL X.c2) (r3 : RiseL s.c1) :
 Calls Tryz.prog 76 #[.agg #[.slice (some ⟨g, 0, none⟩) lt.length ca, .slice oa lo.length co], .int .i64 t, .agg #[.int .i64 s.th, .int .i64 s.kind, .int .i64 s.id, .int .i64 s.to, .int .i64 s.cat, .string s.data, .int .i64 s.b1, .slice s.c1.a s.c1.n s.c1.k, .int .i64 s.b2, .slice s.c2.a s.c2.n s.c2.k]] w fun e w' => ∃ (x : ThrV) (c : Int), e = .returned (.tuple #[.agg #[.slice (some ⟨g, 0, none⟩) lt.length ca, .slice oa lo.length co], .int .i64 c, .string ⟨#[]⟩]) ∧ KSt w' B (.slice (some ⟨g, 0, none⟩) lt.length ca) (.slice oa lo.length co) (lt.set t x) lo ∧ Below B w w' ∧ ((c = 4 ∧ raiseB X s = false ∧ x = X) ∨ (c = 0 ∧ raiseB X s = true ∧ ∃ d : CatL, s.c1.same d ∧ x = ⟨X.id, s.b1, d, X.b2, X.c2, X.own, X.made⟩)) := by
 obtain ⟨th, kd, id_, to_, cat, dat, sb1, sc1, sb2, sc2⟩ := s
 simp only at hk hn1 r3 ⊢
 subst hk
 have XN : Hid (X.new B w ∧ (X.own.n ≤ X.own.k ∧ X.own.k ≤ maxLen)) := hid (by rw [hX]; exact ⟨st.tn _ (List.getElem_mem ht), st.tc _ (List.getElem_mem ht)⟩)
 have XA : Hid (X.at w) := hid XN.out.1.at
 obtain ⟨CW, gl⟩ := st.cell7 ht
 rw [← hX] at CW
 have b3 : Below w.heap.size w (((w.alloc (.cells #[.slice (some ⟨g, 0, none⟩) lt.length ca, .slice oa lo.length co] 42)).alloc (.cells #[.int .i64 th, .int .i64 12, .int .i64 id_, .int .i64 to_, .int .i64 cat, .string dat, .int .i64 sb1, .slice sc1.a sc1.n sc1.k, .int .i64 sb2, .slice sc2.a sc2.n sc2.k] 28)).alloc (.cells #[.slice none 0 0, .slice none 0 0] 42)) := (((Below.refl _ w).alloc (Nat.le_refl _) _).alloc (by simp) _).alloc (by simp; omega) _
 have CC := CW.below gl b3
 have q0 : (((w.alloc (.cells #[.slice (some ⟨g, 0, none⟩) lt.length ca, .slice oa lo.length co] 42)).alloc (.cells #[.int .i64 th, .int .i64 12, .int .i64 id_, .int .i64 to_, .int .i64 cat, .string dat, .int .i64 sb1, .slice sc1.a sc1.n sc1.k, .int .i64 sb2, .slice sc2.a sc2.n sc2.k] 28)).alloc (.cells #[.slice none 0 0, .slice none 0 0] 42)).cell? ⟨g, t * 7, none⟩ = some (.int .i64 X.id) := CC.c0
 have q1 : (((w.alloc (.cells #[.slice (some ⟨g, 0, none⟩) lt.length ca, .slice oa lo.length co] 42)).alloc (.cells #[.int .i64 th, .int .i64 12, .int .i64 id_, .int .i64 to_, .int .i64 cat, .string dat, .int .i64 sb1, .slice sc1.a sc1.n sc1.k, .int .i64 sb2, .slice sc2.a sc2.n sc2.k] 28)).alloc (.cells #[.slice none 0 0, .slice none 0 0] 42)).cell? ⟨g, t * 7 + 1, none⟩ = some (.int .i64 X.b1) := CC.c1
 have q2 : (((w.alloc (.cells #[.slice (some ⟨g, 0, none⟩) lt.length ca, .slice oa lo.length co] 42)).alloc (.cells #[.int .i64 th, .int .i64 12, .int .i64 id_, .int .i64 to_, .int .i64 cat, .string dat, .int .i64 sb1, .slice sc1.a sc1.n sc1.k, .int .i64 sb2, .slice sc2.a sc2.n sc2.k] 28)).alloc (.cells #[.slice none 0 0, .slice none 0 0] 42)).cell? ⟨g, t * 7 + 2, none⟩ = some (.slice X.c1.a X.c1.n X.c1.k) := CC.c2
 have q3 : (((w.alloc (.cells #[.slice (some ⟨g, 0, none⟩) lt.length ca, .slice oa lo.length co] 42)).alloc (.cells #[.int .i64 th, .int .i64 12, .int .i64 id_, .int .i64 to_, .int .i64 cat, .string dat, .int .i64 sb1, .slice sc1.a sc1.n sc1.k, .int .i64 sb2, .slice sc2.a sc2.n sc2.k] 28)).alloc (.cells #[.slice none 0 0, .slice none 0 0] 42)).cell? ⟨g, t * 7 + 3, none⟩ = some (.int .i64 X.b2) := CC.c3
 have q4 : (((w.alloc (.cells #[.slice (some ⟨g, 0, none⟩) lt.length ca, .slice oa lo.length co] 42)).alloc (.cells #[.int .i64 th, .int .i64 12, .int .i64 id_, .int .i64 to_, .int .i64 cat, .string dat, .int .i64 sb1, .slice sc1.a sc1.n sc1.k, .int .i64 sb2, .slice sc2.a sc2.n sc2.k] 28)).alloc (.cells #[.slice none 0 0, .slice none 0 0] 42)).cell? ⟨g, t * 7 + 4, none⟩ = some (.slice X.c2.a X.c2.n X.c2.k) := CC.c4
 have q5 : (((w.alloc (.cells #[.slice (some ⟨g, 0, none⟩) lt.length ca, .slice oa lo.length co] 42)).alloc (.cells #[.int .i64 th, .int .i64 12, .int .i64 id_, .int .i64 to_, .int .i64 cat, .string dat, .int .i64 sb1, .slice sc1.a sc1.n sc1.k, .int .i64 sb2, .slice sc2.a sc2.n sc2.k] 28)).alloc (.cells #[.slice none 0 0, .slice none 0 0] 42)).cell? ⟨g, t * 7 + 5, none⟩ = some (.slice X.own.a X.own.n X.own.k) := CC.c5
 have q6 : (((w.alloc (.cells #[.slice (some ⟨g, 0, none⟩) lt.length ca, .slice oa lo.length co] 42)).alloc (.cells #[.int .i64 th, .int .i64 12, .int .i64 id_, .int .i64 to_, .int .i64 cat, .string dat, .int .i64 sb1, .slice sc1.a sc1.n sc1.k, .int .i64 sb2, .slice sc2.a sc2.n sc2.k] 28)).alloc (.cells #[.slice none 0 0, .slice none 0 0] 42)).cell? ⟨g, t * 7 + 6, none⟩ = some (.int .i64 X.made) := CC.c6
 have b0 : Below w.heap.size w ((((w.alloc (.cells #[.slice (some ⟨g, 0, none⟩) lt.length ca, .slice oa lo.length co] 42)).alloc (.cells #[.int .i64 th, .int .i64 12, .int .i64 id_, .int .i64 to_, .int .i64 cat, .string dat, .int .i64 sb1, .slice sc1.a sc1.n sc1.k, .int .i64 sb2, .slice sc2.a sc2.n sc2.k] 28)).alloc (.cells #[.slice none 0 0, .slice none 0 0] 42)).alloc (.cells #[.int .i64 X.id, .int .i64 X.b1, .slice X.c1.a X.c1.n X.c1.k, .int .i64 X.b2, .slice X.c2.a X.c2.n X.c2.k, .slice X.own.a X.own.n X.own.k, .int .i64 X.made] 79)) := ((((Below.refl _ w).alloc (Nat.le_refl _) _).alloc (by simp) _).alloc (by simp; omega) _).alloc (by simp; omega) _
 have A0 : Blk ((((w.alloc (.cells #[.slice (some ⟨g, 0, none⟩) lt.length ca, .slice oa lo.length co] 42)).alloc (.cells #[.int .i64 th, .int .i64 12, .int .i64 id_, .int .i64 to_, .int .i64 cat, .string dat, .int .i64 sb1, .slice sc1.a sc1.n sc1.k, .int .i64 sb2, .slice sc2.a sc2.n sc2.k] 28)).alloc (.cells #[.slice none 0 0, .slice none 0 0] 42)).alloc (.cells #[.int .i64 X.id, .int .i64 X.b1, .slice X.c1.a X.c1.n X.c1.k, .int .i64 X.b2, .slice X.c2.a X.c2.n X.c2.k, .slice X.own.a X.own.n X.own.k, .int .i64 X.made] 79)) w.heap.size (.cells #[.slice (some ⟨g, 0, none⟩) lt.length ca, .slice oa lo.length co] 42) := (((Blk.new w _).alloc _).alloc _).alloc _
 have P0 : Blk ((((w.alloc (.cells #[.slice (some ⟨g, 0, none⟩) lt.length ca, .slice oa lo.length co] 42)).alloc (.cells #[.int .i64 th, .int .i64 12, .int .i64 id_, .int .i64 to_, .int .i64 cat, .string dat, .int .i64 sb1, .slice sc1.a sc1.n sc1.k, .int .i64 sb2, .slice sc2.a sc2.n sc2.k] 28)).alloc (.cells #[.slice none 0 0, .slice none 0 0] 42)).alloc (.cells #[.int .i64 X.id, .int .i64 X.b1, .slice X.c1.a X.c1.n X.c1.k, .int .i64 X.b2, .slice X.c2.a X.c2.n X.c2.k, .slice X.own.a X.own.n X.own.k, .int .i64 X.made] 79)) (w.heap.size + 1) (.cells #[.int .i64 th, .int .i64 12, .int .i64 id_, .int .i64 to_, .int .i64 cat, .string dat, .int .i64 sb1, .slice sc1.a sc1.n sc1.k, .int .i64 sb2, .slice sc2.a sc2.n sc2.k] 28) := by have := ((Blk.new (w.alloc (.cells #[.slice (some ⟨g, 0, none⟩) lt.length ca, .slice oa lo.length co] 42)) (.cells #[.int .i64 th, .int .i64 12, .int .i64 id_, .int .i64 to_, .int .i64 cat, .string dat, .int .i64 sb1, .slice sc1.a sc1.n sc1.k, .int .i64 sb2, .slice sc2.a sc2.n sc2.k] 28)).alloc (.cells #[.slice none 0 0, .slice none 0 0] 42)).alloc (.cells #[.int .i64 X.id, .int .i64 X.b1, .slice X.c1.a X.c1.n X.c1.k, .int .i64 X.b2, .slice X.c2.a X.c2.n X.c2.k, .slice X.own.a X.own.n X.own.k, .int .i64 X.made] 79); simpa using this
 have R0 : Blk ((((w.alloc (.cells #[.slice (some ⟨g, 0, none⟩) lt.length ca, .slice oa lo.length co] 42)).alloc (.cells #[.int .i64 th, .int .i64 12, .int .i64 id_, .int .i64 to_, .int .i64 cat, .string dat, .int .i64 sb1, .slice sc1.a sc1.n sc1.k, .int .i64 sb2, .slice sc2.a sc2.n sc2.k] 28)).alloc (.cells #[.slice none 0 0, .slice none 0 0] 42)).alloc (.cells #[.int .i64 X.id, .int .i64 X.b1, .slice X.c1.a X.c1.n X.c1.k, .int .i64 X.b2, .slice X.c2.a X.c2.n X.c2.k, .slice X.own.a X.own.n X.own.k, .int .i64 X.made] 79)) (w.heap.size + 1 + 1) (.cells #[.slice none 0 0, .slice none 0 0] 42) := by have := (Blk.new ((w.alloc (.cells #[.slice (some ⟨g, 0, none⟩) lt.length ca, .slice oa lo.length co] 42)).alloc (.cells #[.int .i64 th, .int .i64 12, .int .i64 id_, .int .i64 to_, .int .i64 cat, .string dat, .int .i64 sb1, .slice sc1.a sc1.n sc1.k, .int .i64 sb2, .slice sc2.a sc2.n sc2.k] 28)) (.cells #[.slice none 0 0, .slice none 0 0] 42)).alloc (.cells #[.int .i64 X.id, .int .i64 X.b1, .slice X.c1.a X.c1.n X.c1.k, .int .i64 X.b2, .slice X.c2.a X.c2.n X.c2.k, .slice X.own.a X.own.n X.own.k, .int .i64 X.made] 79); simpa using this
 have X0 : Blk ((((w.alloc (.cells #[.slice (some ⟨g, 0, none⟩) lt.length ca, .slice oa lo.length co] 42)).alloc (.cells #[.int .i64 th, .int .i64 12, .int .i64 id_, .int .i64 to_, .int .i64 cat, .string dat, .int .i64 sb1, .slice sc1.a sc1.n sc1.k, .int .i64 sb2, .slice sc2.a sc2.n sc2.k] 28)).alloc (.cells #[.slice none 0 0, .slice none 0 0] 42)).alloc (.cells #[.int .i64 X.id, .int .i64 X.b1, .slice X.c1.a X.c1.n X.c1.k, .int .i64 X.b2, .slice X.c2.a X.c2.n X.c2.k, .slice X.own.a X.own.n X.own.k, .int .i64 X.made] 79)) (w.heap.size + 1 + 1 + 1) (.cells #[.int .i64 X.id, .int .i64 X.b1, .slice X.c1.a X.c1.n X.c1.k, .int .i64 X.b2, .slice X.c2.a X.c2.n X.c2.k, .slice X.own.a X.own.n X.own.k, .int .i64 X.made] 79) := by have := Blk.new (((w.alloc (.cells #[.slice (some ⟨g, 0, none⟩) lt.length ca, .slice oa lo.length co] 42)).alloc (.cells #[.int .i64 th, .int .i64 12, .int .i64 id_, .int .i64 to_, .int .i64 cat, .string dat, .int .i64 sb1, .slice sc1.a sc1.n sc1.k, .int .i64 sb2, .slice sc2.a sc2.n sc2.k] 28)).alloc (.cells #[.slice none 0 0, .slice none 0 0] 42)) (.cells #[.int .i64 X.id, .int .i64 X.b1, .slice X.c1.a X.c1.n X.c1.k, .int .i64 X.b2, .slice X.c2.a X.c2.n X.c2.k, .slice X.own.a X.own.n X.own.k, .int .i64 X.made] 79); simpa using this
 have HS := hid (st.below b0)
 have HB := hid b0
 have HA := hid A0
 have HP := hid P0
 have HR := hid R0
 have HX := hid X0
 have SA := hid hs
 have EX := hid hX
 have i0 : (0 : Int) ≤ (t : Int) := by omega
 have i1 : (t : Int) < (lt.length : Int) := by omega
 have F1 : Hid (∀ W, Below w.heap.size w W → Calls Tryz.prog 90 #[.agg #[.int .i64 X.b1, .slice X.c1.a X.c1.n X.c1.k], .slice X.own.a X.own.n X.own.k, .agg #[.int .i64 sb1, .slice sc1.a sc1.n sc1.k]] W fun e w' => e = .returned (.bool (flowsB X.b1 X.c1.n X.c1.f X.c1.g X.own.n X.own.h sb1 sc1.n sc1.f sc1.g)) ∧ Below W.heap.size W w') := hid (fun W hW => l1Flows_any _ _ _ _ X.c1.f X.c1.g _ _ _ X.own.h _ _ _ _ sc1.f sc1.g W xs.1 hn1 (XA.out.2.2.1) ((XA.out.below hW).1.2) ((SA.out.below hW).1.2) ((XA.out.below hW).2.2.2) r1 r3)
 have F2 : Hid (∀ W, Below w.heap.size w W → Calls Tryz.prog 90 #[.agg #[.int .i64 sb1, .slice sc1.a sc1.n sc1.k], .slice X.own.a X.own.n X.own.k, .agg #[.int .i64 X.b2, .slice X.c2.a X.c2.n X.c2.k]] W fun e w' => e = .returned (.bool (flowsB sb1 sc1.n sc1.f sc1.g X.own.n X.own.h X.b2 X.c2.n X.c2.f X.c2.g)) ∧ Below W.heap.size W w') := hid (fun W hW => l1Flows_any _ _ _ _ sc1.f sc1.g _ _ _ X.own.h _ _ _ _ X.c2.f X.c2.g W hn1 xs.2.1 (XA.out.2.2.1) ((SA.out.below hW).1.2) ((XA.out.below hW).2.1.2) ((XA.out.below hW).2.2.2) r3 r2)
 have CLB : Hid (∀ W, Below w.heap.size w W → Calls Tryz.prog 91 #[.agg #[.int .i64 sb1, .slice sc1.a sc1.n sc1.k]] W fun e w' => ∃ d : CatL, e = .returned (.agg #[.int .i64 sb1, .slice d.a d.n d.k]) ∧ sc1.same d ∧ d.new W.heap.size w' ∧ Below W.heap.size W w') := hid (fun W hW => l3CopyLabel_any sb1 sc1 W (SA.out.below hW).1 hn1)
 have ER : Hid (raiseB X ⟨th, 12, id_, to_, cat, dat, sb1, sc1, sb2, sc2⟩ = (flowsB X.b1 X.c1.n X.c1.f X.c1.g X.own.n X.own.h sb1 sc1.n sc1.f sc1.g && flowsB sb1 sc1.n sc1.f sc1.g X.own.n X.own.h X.b2 X.c2.n X.c2.f X.c2.g)) := hid rfl
 generalize flowsB X.b1 X.c1.n X.c1.f X.c1.g X.own.n X.own.h sb1 sc1.n sc1.f sc1.g = f1 at *
 generalize flowsB sb1 sc1.n sc1.f sc1.g X.own.n X.own.h X.b2 X.c2.n X.c2.f X.c2.g = f2 at *
 generalize raiseB X ⟨th, 12, id_, to_, cat, dat, sb1, sc1, sb2, sc2⟩ = rb at *
 clear CC CW b3 b0 A0 P0 R0 X0 hs hX st
 go_enter Tryz.func76, Tryz.ntmps76
 have WV := hid HB.out
 obtain ⟨x0, x1⟩ := HA.out.two
 obtain ⟨s0, s1, s2, s3, s4, s5, s6, s7, s8, s9⟩ := HP.out.ten
 obtain ⟨y0, y1, y2, y3, y4, y5, y6⟩ := HX.out.seven
 go_wp2_with fail
 have BX : Hid (∀ W, Below ((((w.alloc (.cells #[.slice (some ⟨g, 0, none⟩) lt.length ca, .slice oa lo.length co] 42)).alloc (.cells #[.int .i64 th, .int .i64 12, .int .i64 id_, .int .i64 to_, .int .i64 cat, .string dat, .int .i64 sb1, .slice sc1.a sc1.n sc1.k, .int .i64 sb2, .slice sc2.a sc2.n sc2.k] 28)).alloc (.cells #[.slice none 0 0, .slice none 0 0] 42)).alloc (.cells #[.int .i64 X.id, .int .i64 X.b1, .slice X.c1.a X.c1.n X.c1.k, .int .i64 X.b2, .slice X.c2.a X.c2.n X.c2.k, .slice X.own.a X.own.n X.own.k, .int .i64 X.made] 79)).heap.size ((((w.alloc (.cells #[.slice (some ⟨g, 0, none⟩) lt.length ca, .slice oa lo.length co] 42)).alloc (.cells #[.int .i64 th, .int .i64 12, .int .i64 id_, .int .i64 to_, .int .i64 cat, .string dat, .int .i64 sb1, .slice sc1.a sc1.n sc1.k, .int .i64 sb2, .slice sc2.a sc2.n sc2.k] 28)).alloc (.cells #[.slice none 0 0, .slice none 0 0] 42)).alloc (.cells #[.int .i64 X.id, .int .i64 X.b1, .slice X.c1.a X.c1.n X.c1.k, .int .i64 X.b2, .slice X.c2.a X.c2.n X.c2.k, .slice X.own.a X.own.n X.own.k, .int .i64 X.made] 79)) W → Blk W w.heap.size (.cells #[.slice (some ⟨g, 0, none⟩) lt.length ca, .slice oa lo.length co] 42) ∧ Blk W (w.heap.size + 1) (.cells #[.int .i64 th, .int .i64 12, .int .i64 id_, .int .i64 to_, .int .i64 cat, .string dat, .int .i64 sb1, .slice sc1.a sc1.n sc1.k, .int .i64 sb2, .slice sc2.a sc2.n sc2.k] 28) ∧ Blk W (w.heap.size + 1 + 1) (.cells #[.slice none 0 0, .slice none 0 0] 42) ∧ Blk W (w.heap.size + 1 + 1 + 1) (.cells #[.int .i64 X.id, .int .i64 X.b1, .slice X.c1.a X.c1.n X.c1.k, .int .i64 X.b2, .slice X.c2.a X.c2.n X.c2.k, .slice X.own.a X.own.n X.own.k, .int .i64 X.made] 79) ∧ KSt W B (.slice (some ⟨g, 0, none⟩) lt.length ca) (.slice oa lo.length co) lt lo) := hid (fun W hW => ⟨HA.out.below hW, HP.out.below hW, HR.out.below hW, HX.out.below hW, HS.out.below hW⟩)
 have LW : Hid (∀ W, Below ((((w.alloc (.cells #[.slice (some ⟨g, 0, none⟩) lt.length ca, .slice oa lo.length co] 42)).alloc (.cells #[.int .i64 th, .int .i64 12, .int .i64 id_, .int .i64 to_, .int .i64 cat, .string dat, .int .i64 sb1, .slice sc1.a sc1.n sc1.k, .int .i64 sb2, .slice sc2.a sc2.n sc2.k] 28)).alloc (.cells #[.slice none 0 0, .slice none 0 0] 42)).alloc (.cells #[.int .i64 X.id, .int .i64 X.b1, .slice X.c1.a X.c1.n X.c1.k, .int .i64 X.b2, .slice X.c2.a X.c2.n X.c2.k, .slice X.own.a X.own.n X.own.k, .int .i64 X.made] 79)).heap.size ((((w.alloc (.cells #[.slice (some ⟨g, 0, none⟩) lt.length ca, .slice oa lo.length co] 42)).alloc (.cells #[.int .i64 th, .int .i64 12, .int .i64 id_, .int .i64 to_, .int .i64 cat, .string dat, .int .i64 sb1, .slice sc1.a sc1.n sc1.k, .int .i64 sb2, .slice sc2.a sc2.n sc2.k] 28)).alloc (.cells #[.slice none 0 0, .slice none 0 0] 42)).alloc (.cells #[.int .i64 X.id, .int .i64 X.b1, .slice X.c1.a X.c1.n X.c1.k, .int .i64 X.b2, .slice X.c2.a X.c2.n X.c2.k, .slice X.own.a X.own.n X.own.k, .int .i64 X.made] 79)) W → Below w.heap.size w W) := hid (fun W hW => then_ HB.out hW)
 have LB : Hid (∀ W, Below ((((w.alloc (.cells #[.slice (some ⟨g, 0, none⟩) lt.length ca, .slice oa lo.length co] 42)).alloc (.cells #[.int .i64 th, .int .i64 12, .int .i64 id_, .int .i64 to_, .int .i64 cat, .string dat, .int .i64 sb1, .slice sc1.a sc1.n sc1.k, .int .i64 sb2, .slice sc2.a sc2.n sc2.k] 28)).alloc (.cells #[.slice none 0 0, .slice none 0 0] 42)).alloc (.cells #[.int .i64 X.id, .int .i64 X.b1, .slice X.c1.a X.c1.n X.c1.k, .int .i64 X.b2, .slice X.c2.a X.c2.n X.c2.k, .slice X.own.a X.own.n X.own.k, .int .i64 X.made] 79)).heap.size ((((w.alloc (.cells #[.slice (some ⟨g, 0, none⟩) lt.length ca, .slice oa lo.length co] 42)).alloc (.cells #[.int .i64 th, .int .i64 12, .int .i64 id_, .int .i64 to_, .int .i64 cat, .string dat, .int .i64 sb1, .slice sc1.a sc1.n sc1.k, .int .i64 sb2, .slice sc2.a sc2.n sc2.k] 28)).alloc (.cells #[.slice none 0 0, .slice none 0 0] 42)).alloc (.cells #[.int .i64 X.id, .int .i64 X.b1, .slice X.c1.a X.c1.n X.c1.k, .int .i64 X.b2, .slice X.c2.a X.c2.n X.c2.k, .slice X.own.a X.own.n X.own.k, .int .i64 X.made] 79)) W → Below B w W) := hid (fun W hW => (then_ HB.out hW).mono hB)
 have V0 := hid (Below.refl ((((w.alloc (.cells #[.slice (some ⟨g, 0, none⟩) lt.length ca, .slice oa lo.length co] 42)).alloc (.cells #[.int .i64 th, .int .i64 12, .int .i64 id_, .int .i64 to_, .int .i64 cat, .string dat, .int .i64 sb1, .slice sc1.a sc1.n sc1.k, .int .i64 sb2, .slice sc2.a sc2.n sc2.k] 28)).alloc (.cells #[.slice none 0 0, .slice none 0 0] 42)).alloc (.cells #[.int .i64 X.id, .int .i64 X.b1, .slice X.c1.a X.c1.n X.c1.k, .int .i64 X.b2, .slice X.c2.a X.c2.n X.c2.k, .slice X.own.a X.own.n X.own.k, .int .i64 X.made] 79)).heap.size ((((w.alloc (.cells #[.slice (some ⟨g, 0, none⟩) lt.length ca, .slice oa lo.length co] 42)).alloc (.cells #[.int .i64 th, .int .i64 12, .int .i64 id_, .int .i64 to_, .int .i64 cat, .string dat, .int .i64 sb1, .slice sc1.a sc1.n sc1.k, .int .i64 sb2, .slice sc2.a sc2.n sc2.k] 28)).alloc (.cells #[.slice none 0 0, .slice none 0 0] 42)).alloc (.cells #[.int .i64 X.id, .int .i64 X.b1, .slice X.c1.a X.c1.n X.c1.k, .int .i64 X.b2, .slice X.c2.a X.c2.n X.c2.k, .slice X.own.a X.own.n X.own.k, .int .i64 X.made] 79)))
 clear x0 x1 s0 s1 s2 s3 s4 s5 s6 s7 s8 s9 y0 y1 y2 y3 y4 y5 y6 q0 q1 q2 q3 q4 q5 q6 HA HP HR HX HS WV
 generalize ((((w.alloc (.cells #[.slice (some ⟨g, 0, none⟩) lt.length ca, .slice oa lo.length co] 42)).alloc (.cells #[.int .i64 th, .int .i64 12, .int .i64 id_, .int .i64 to_, .int .i64 cat, .string dat, .int .i64 sb1, .slice sc1.a sc1.n sc1.k, .int .i64 sb2, .slice sc2.a sc2.n sc2.k] 28)).alloc (.cells #[.slice none 0 0, .slice none 0 0] 42)).alloc (.cells #[.int .i64 X.id, .int .i64 X.b1, .slice X.c1.a X.c1.n X.c1.k, .int .i64 X.b2, .slice X.c2.a X.c2.n X.c2.k, .slice X.own.a X.own.n X.own.k, .int .i64 X.made] 79)) = V at *
 refine (F1.out _ (LW.out _ V0.out)).mono ?_
 rintro e w1 ⟨rfl, hb1⟩
 have V1 := hid (then_ V0.out hb1)
 clear hb1
 obtain ⟨x0, x1⟩ := (BX.out _ V1.out).1.two
 obtain ⟨s0, s1, s2, s3, s4, s5, s6, s7, s8, s9⟩ := (BX.out _ V1.out).2.1.ten
 obtain ⟨r0, r1⟩ := (BX.out _ V1.out).2.2.1.two
 have rf := (BX.out _ V1.out).2.2.1.warm
 obtain ⟨y0, y1, y2, y3, y4, y5, y6⟩ := (BX.out _ V1.out).2.2.2.1.seven
 cases f1 with
 | false =>
  simp only [Bool.false_and] at ER
  go_wp2
  have RB := hid (BX.out _ V1.out).2.2.1
  have KB := hid (BX.out _ V1.out).2.2.2.2
  refine bodyPost_ret (self_results _ _ (w.heap.size + 1 + 1) 6 _ _ _ _ Tryz.results76 ((RB.out.setAt (i := 0) _).setAt (i := 1) _) rfl rfl rfl) rfl ⟨X, 4, rfl, ?_, ?_, .inl ⟨rfl, ER.out, rfl⟩⟩
  ·rw [EX.out, set_same]
   exact (KB.out.set RB.out (.inl rfl) _).set (RB.out.setAt (i := 0) _) (.inl rfl) _
  ·exact ((LB.out _ V1.out).setCell (by dsimp only; omega) _).setCell (by dsimp only; omega) _
 | true =>
 go_wp2_with fail
 refine (F2.out _ (LW.out _ V1.out)).mono ?_
 rintro e w2 ⟨rfl, hb2⟩
 have V2 := hid (then_ V1.out hb2)
 clear hb2
 clear x0 x1 s0 s1 s2 s3 s4 s5 s6 s7 s8 s9 r0 r1 rf y0 y1 y2 y3 y4 y5 y6
 obtain ⟨x0, x1⟩ := (BX.out _ V2.out).1.two
 obtain ⟨s0, s1, s2, s3, s4, s5, s6, s7, s8, s9⟩ := (BX.out _ V2.out).2.1.ten
 obtain ⟨r0, r1⟩ := (BX.out _ V2.out).2.2.1.two
 have rf := (BX.out _ V2.out).2.2.1.warm
 obtain ⟨y0, y1, y2, y3, y4, y5, y6⟩ := (BX.out _ V2.out).2.2.2.1.seven
 cases f2 with
 | false =>
  simp only [Bool.and_false] at ER
  go_wp2
  have RB := hid (BX.out _ V2.out).2.2.1
  have KB := hid (BX.out _ V2.out).2.2.2.2
  refine bodyPost_ret (self_results _ _ (w.heap.size + 1 + 1) 6 _ _ _ _ Tryz.results76 ((RB.out.setAt (i := 0) _).setAt (i := 1) _) rfl rfl rfl) rfl ⟨X, 4, rfl, ?_, ?_, .inl ⟨rfl, ER.out, rfl⟩⟩
  ·rw [EX.out, set_same]
   exact (KB.out.set RB.out (.inl rfl) _).set (RB.out.setAt (i := 0) _) (.inl rfl) _
  ·exact ((LB.out _ V2.out).setCell (by dsimp only; omega) _).setCell (by dsimp only; omega) _
 | true =>
 simp only [Bool.and_true] at ER
 have EG : Hid (∀ args w, (callFunc 91 args).run Tryz.prog w = .ok (.enter 91 args) w) := hid (enters_of Tryz.func91 (by kernel_rfl) rfl)
 have D0 := hid (below_drew V2.out)
 clear x0 x1 s0 s1 s2 s3 s4 s5 s6 s7 s8 s9 r0 r1 rf y0 y1 y2 y3 y4 y5 y6
 obtain ⟨x0, x1⟩ := (BX.out _ D0.out).1.two
 obtain ⟨s0, s1, s2, s3, s4, s5, s6, s7, s8, s9⟩ := (BX.out _ D0.out).2.1.ten
 obtain ⟨r0, r1⟩ := (BX.out _ D0.out).2.2.1.two
 have rf := (BX.out _ D0.out).2.2.1.warm
 obtain ⟨y0, y1, y2, y3, y4, y5, y6⟩ := (BX.out _ D0.out).2.2.2.1.seven
 have CP : Hid (Calls Tryz.prog 91 #[.agg #[.int .i64 sb1, .slice sc1.a sc1.n sc1.k]] w2.drew fun e w' => ∃ v, e = .returned v ∧ (∃ d : CatL, v = .agg #[.int .i64 sb1, .slice d.a d.n d.k] ∧ sc1.same d ∧ d.new w2.drew.heap.size w' ∧ Below w2.drew.heap.size w2.drew w')) := hid ((CLB.out _ (LW.out _ D0.out)).mono fun _ _ ⟨d, e1, h1, h2, h3⟩ => ⟨_, e1, d, rfl, h1, h2, h3⟩)
 go_wp2_with fail
 go_region_law (first
  | (refine step_call (by rfl) 91 _ _ (by rfl) EG.out _ (by rfl) _ CP.out ?_; rintro v w3 ⟨d, rfl, sd, nd, b3⟩; have V3 := hid (then_ D0.out b3); have SD := hid sd; have ND := hid (nd.low (Nat.le_trans hB (LW.out _ D0.out).size)); obtain ⟨m0, m1⟩ := (BX.out _ V3.out).1.two; have KB := hid (BX.out _ V3.out).2.2.2.2; have CC := (KB.out.cell7 ht).1; have c1 := CC.c1; have c2 := CC.c2; have GF := hid (KB.out.setLab (b := sb1) (d := d) ht EX.out ND.out); have gf := GF.out.2.1.choose_spec.warm; clear sd nd b3 CC))
 all_goals (
  have ng1 : g ≠ w.heap.size := by omega
  have ng2 : g ≠ w.heap.size + 1 + 1 := by omega
  have K4 : Hid (KSt ((w3.setCell ⟨g, t * 7 + 1, none⟩ (.int .i64 sb1)).setCell ⟨g, t * 7 + 1 + 1, none⟩ (.slice d.a d.n d.k)) B (.slice (some ⟨g, 0, none⟩) lt.length ca) (.slice oa lo.length co) (lt.set t ⟨X.id, sb1, d, X.b2, X.c2, X.own, X.made⟩) lo) := hid GF.out.1
  have A4 := hid (((BX.out _ V3.out).1.other ng1 (i := t * 7 + 1) (.int .i64 sb1)).other ng1 (i := t * 7 + 1 + 1) (.slice d.a d.n d.k))
  have R4 := hid (((BX.out _ V3.out).2.2.1.other ng2 (i := t * 7 + 1) (.int .i64 sb1)).other ng2 (i := t * 7 + 1 + 1) (.slice d.a d.n d.k))
  have L4 : Hid (Below B w ((w3.setCell ⟨g, t * 7 + 1, none⟩ (.int .i64 sb1)).setCell ⟨g, t * 7 + 1 + 1, none⟩ (.slice d.a d.n d.k))) := hid (((LB.out _ V3.out).setCell (by dsimp only; exact GF.out.2.2) _).setCell (by dsimp only; exact GF.out.2.2) _)
  clear GF gf c1 c2 KB m0 m1 x0 x1 s0 s1 s2 s3 s4 s5 s6 s7 s8 s9 r0 r1 rf y0 y1 y2 y3 y4 y5 y6 ND
  generalize (w3.setCell ⟨g, t * 7 + 1, none⟩ (.int .i64 sb1)).setCell ⟨g, t * 7 + 1 + 1, none⟩ (.slice d.a d.n d.k) = W4 at *
  obtain ⟨x0, x1⟩ := A4.out.two
  obtain ⟨r0, r1⟩ := R4.out.two
  have rf := R4.out.warm
  go_wp2
  refine bodyPost_ret (self_results _ _ (w.heap.size + 1 + 1) 6 _ _ _ _ Tryz.results76 ((R4.out.setAt (i := 0) _).setAt (i := 1) _) rfl rfl rfl) rfl ⟨⟨X.id, sb1, d, X.b2, X.c2, X.own, X.made⟩, 0, rfl, (K4.out.set R4.out (.inl rfl) _).set (R4.out.setAt (i := 0) _) (.inl rfl) _, (L4.out.setCell (by dsimp only; omega) _).setCell (by dsimp only; omega) _, .inr ⟨rfl, ER.out, d, SD.out, rfl⟩⟩)
end Go.Proofs.YthbmfbnnemgbpaaGreatDoor
