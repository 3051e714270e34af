/- appending.do. -/
import Derived.Test.YtcchpeebhkiacaaEP
namespace Go.Proofs.Ytcchpeebhkiacaa
open Go Go.RowKit Go.Deep Go.Maps

theorem step_append_str {ops : Array Oper} {o : Oper} {a : Act} {w : World} {K : Act → World → Prop} {Q : Exit → Act → World → Prop} {E : Prop} (hgd : o.guard = none) (s x : Operand)
    (ho : o.op = .call { callee := .builtin .append, args := #[s, x], argTypes := #[65, 65] })
    (B : Nat) (v : Value) (l : List ByteArray) (hs : a.eval s = v) (hown : OwnS w B v l) (ad : Option Addr) (c : Nat) (r : ByteArray) (hx : a.eval x = .slice ad 1 c) (hc : LiesC w ad 1 [.string r])
    (hm : l.length ≤ 100000) (hB : B ≤ w.heap.size)
    (h : ∀ a' c' w', OwnS w' B (.slice a' (l.length + 1) c') (l ++ [r]) → w.grownBy w' v.ownBlock → ((Value.slice a' (l.length + 1) c').ownBlock = v.ownBlock ∨ (Value.slice a' (l.length + 1) c').ownBlock = some w.heap.size) → K (a.put o.dst (.slice a' (l.length + 1) c')) w') :
    if Region.wanted o (yielded ops a.tmps) = true then Oper.wp Try.prog o a w K Q else E := by
  have hw : Region.wanted o (yielded ops a.tmps) = true := by simp [Region.wanted, hgd]
  rw [if_pos hw]
  refine wp_append_gen Try.underlying65 Try.info9 rfl (by omega) w s x ho B v l.length _ hs hown ad 1 c [.string r] hx rfl hc (by simp [Value.oneCell']) (by omega) (by omega) hB fun a' c' w' h2 h3 h4 => ?_
  refine h a' c' w' ?_ h3 h4
  unfold OwnS
  rw [List.length_append]
  have e1 : scells (l ++ [r]) = scells l ++ [Value.string r] := by simp [scells]
  rw [e1]
  exact h2
theorem below_drew {w w' : World} (h : Below w.heap.size w w') : Below w.heap.size w w'.drew := below_drewN h 1
theorem MapS.mono {w : World} {b n n' : Nat} {m : List UInt8 → Option Nat} (h : MapS w b n m) (hn : n ≤ n') : MapS w b n' m := by
  obtain ⟨D, ⟨es, clock, hb, F, hs, hD⟩, r⟩ := h
  exact ⟨D, ⟨es, clock, hb, F, Nat.le_trans hs hn, hD⟩, r⟩
theorem Shelf.mono {w : World} {B c n n' q : Nat} {look : List UInt8 → Option ByteArray} {m : List UInt8 → Option Nat} {pv : List UInt8 → Value} {ps : List UInt8 → List ByteArray} (h : Shelf w B c n q look m pv ps) (hn : n ≤ n') : Shelf w B c n' q look m pv ps :=
  ⟨h.map.mono hn, h.dom, h.blk, h.own, h.inj, h.apart, h.low, h.lowc⟩
theorem setL_twice (look : List UInt8 → Option ByteArray) (k : List UInt8) (d e : ByteArray) : setL (setL look k d) k e = setL look k e := by
  funext x
  unfold setL
  split <;> rfl
theorem empty_add (d : ByteArray) : (⟨#[]⟩ : ByteArray) ++ d = d := by
  apply key_inj
  simp [key, ByteArray.data_append]
/-- what is left to do once the content is there: a piece is put to it -/
def Appended (w : World) (B c n q : Nat) (look : List UInt8 → Option ByteArray) (w' : World) : Prop := ∃ m pv ps, Shelf w' B c n q look m pv ps ∧ Below B w w'

theorem Appended.drew {w w' : World} {B c n q : Nat} {look : List UInt8 → Option ByteArray} (h : Appended w B c n q look w') : Appended w B c n q look w'.drew := by
  obtain ⟨m, pv, ps, h1, h2⟩ := h
  exact ⟨m, pv, ps, h1.below (below_drew (Below.refl _ _)), h2.trans ((below_drew (Below.refl _ _)).mono (by have := h1.lowc; have := h1.map.lt; omega))⟩
set_option maxRecDepth 100000 in
set_option maxHeartbeats 4000000 in
theorem appDo_some (o : OpV) {w : World} {B c n q : Nat} {look : List UInt8 → Option ByteArray} {m : List UInt8 → Option Nat} {pv : List UInt8 → Value} {ps : List UInt8 → List ByteArray} (h : Shelf w B c n q look m pv ps)
    (hs : o.name.size ≤ maxLen) (hq : q ≤ 100000) (hB : B ≤ w.heap.size) (d : ByteArray) (hd : look (key o.name) = some d) (hz : d.size + o.data.size ≤ 1000000000) :
    Calls Try.prog 112 #[o.val, .map (some c)] w fun e w' => e = .returned (.tuple #[]) ∧ Appended w B c n (q + 1) (setL look (key o.name) (d ++ o.data)) w' := by
  unfold OpV.val
  have b0 : Below w.heap.size w (w.alloc (.cells #[.int .i64 o.kind, .string o.name, .string o.to, .string o.data] 98)) := (Below.refl _ w).alloc (Nat.le_refl _) _
  have A0 := Blk.new w (.cells #[.int .i64 o.kind, .string o.name, .string o.to, .string o.data] 98)
  have S0 := h.below b0
  obtain ⟨b, hb⟩ := Option.isSome_iff_exists.1 (show (m (key o.name)).isSome = true by rw [h.dom, hd]; rfl)
  have C1 := hid (has_any o.name c n m _ S0.map hs)
  have EH : Hid ((m (key o.name)).isSome = true) := hid (by rw [hb]; rfl)
  rw [EH.out] at C1
  have hl := S0.map.look hs
  rw [hb] at hl
  simp only [Option.map_some] at hl
  have HS0 := hid S0
  have HD := hid hd
  have HBm := hid hb
  have bl := S0.blk _ _ _ hb hd
  have blt := bl.lt
  have nb : ¬ b = w.heap.size := fun e => by
    have h1 := (h.blk _ _ _ hb hd).lt
    omega
  obtain ⟨x0, x1, x2, x3⟩ := A0.four
  obtain ⟨y0, y1⟩ := bl.two
  have yw := bl.warm
  have HA0 := hid A0
  have BW : Hid (Below B w (w.alloc (.cells #[.int .i64 o.kind, .string o.name, .string o.to, .string o.data] 98))) := hid (b0.mono hB)
  have HBL := hid bl
  have sw : w.heap.size < (w.alloc (.cells #[.int .i64 o.kind, .string o.name, .string o.to, .string o.data] 98)).heap.size := by simp
  clear h S0 hd hb
  go_enter Try.func112, Try.ntmps112
  go_wp2_with (go_at_call 115; refine C1.out.mono ?_; rintro e w' ⟨rfl, rfl⟩)
  generalize w.alloc (.cells #[.int .i64 o.kind, .string o.name, .string o.to, .string o.data] 98) = W at *
  generalize hk : key o.name = k at *
  have bl1 : Below W.heap.size W ((W.alloc (.cells #[.string o.data] 9)).drew) := below_drew ((Below.refl _ W).alloc (Nat.le_refl _) _)
  have N2 := hid (HS0.out.below bl1)
  have l1 : LiesC ((W.alloc (.cells #[.string o.data] 9)).drew) (some ⟨W.heap.size, 0, none⟩) 1 [.string o.data] := one_str o.data
  have HL := hid l1
  have OA := hid (N2.out.own k d HD.out).1
  have lm : (ps k).length ≤ 100000 := by have := (N2.out.own k d HD.out).2.2; omega
  have bW : B ≤ W.heap.size := by omega
  have s1 : B ≤ ((W.alloc (.cells #[.string o.data] 9)).drew).heap.size := Nat.le_trans bW bl1.size
  have A3 : Hid (∀ w3 : World, ((W.alloc (.cells #[.string o.data] 9)).drew).grownBy w3 (pv k).ownBlock → Blk w3 b (.cells #[pv k, .int .i64 d.size] 76) ∧ Blk w3 w.heap.size (.cells #[.int .i64 o.kind, .string o.name, .string o.to, .string o.data] 98)) := hid (fun w3 g3 =>
    ⟨(g3.block b (HBL.out.below bl1).lt (own_neS OA.out (HBL.out.below bl1) (by decide))).trans (HBL.out.below bl1), (g3.block _ (HA0.out.below bl1).lt (own_neS OA.out (HA0.out.below bl1) (by decide))).trans (HA0.out.below bl1)⟩)
  have FIN : Hid (∀ (a3 : Option Addr) (c3 : Nat) (w3 : World), OwnS w3 B (.slice a3 ((ps k).length + 1) c3) (ps k ++ [o.data]) → ((W.alloc (.cells #[.string o.data] 9)).drew).grownBy w3 (pv k).ownBlock → ((Value.slice a3 ((ps k).length + 1) c3).ownBlock = (pv k).ownBlock ∨ (Value.slice a3 ((ps k).length + 1) c3).ownBlock = some ((W.alloc (.cells #[.string o.data] 9)).drew).heap.size) →
      Appended w B c n (q + 1) (setL look k (d ++ o.data)) ((w3.setCell ⟨b, 0, none⟩ (.slice a3 ((ps k).length + 1) c3)).setCell ⟨b, 1, none⟩ (.int .i64 (d ++ o.data).size))) := hid (fun a3 c3 w3 h3 g3 v3 =>
    ⟨_, _, _, N2.out.more k d o.data b HBm.out HD.out _ h3 g3 v3, (((BW.out.trans (bl1.mono bW)).trans (below_grown g3 s1 (fun j hj => (World.ownsRow.lt OA.out j hj).1))).setCell (N2.out.low k b HBm.out) _).setCell (N2.out.low k b HBm.out) _⟩)
  have y0a : (W.alloc (.cells #[.string o.data] 9)).cell? ⟨b, 0, none⟩ = some (pv k) := (((Below.refl _ W).alloc (Nat.le_refl _) _).cell (p := ⟨b, 0, none⟩) blt).trans y0
  have x3a : (W.alloc (.cells #[.string o.data] 9)).cell? ⟨w.heap.size, 3, none⟩ = some (.string o.data) := (((Below.refl _ W).alloc (Nat.le_refl _) _).cell (p := ⟨w.heap.size, 3, none⟩) sw).trans x3
  have un : ¬ b = W.heap.size := by omega
  have pn : ¬ w.heap.size = W.heap.size := by omega
  have ES : Hid ((d.size : Int) + o.data.size = ((d ++ o.data).size : Nat)) := hid (by rw [ByteArray.size_append]; omega)
  have HK := hid hk
  clear l1 bl1 C1 EH hl HS0 HD HBm bl HA0 HBL x0 x1 x2 b0 hk A0 N2
  go_region_law ((refine step_append_str (by rfl) _ _ (by rfl) B (pv k) (ps k) (by rfl) OA.out _ 1 o.data (by rfl) HL.out lm s1 ?_; intro a3 c3 w3 O3 g3 v3; have Z := hid (A3.out w3 g3); obtain ⟨z0, z1⟩ := Z.out.1.two; have z2 := Z.out.1.warm; obtain ⟨_, _, _, z6⟩ := Z.out.2.four; have O4 := hid O3; have G4 := hid g3; have V4 := hid v3; clear O3 g3 v3))
  all_goals (
    have fin := hid (FIN.out _ _ _ O4.out G4.out V4.out)
    have Z1 : Hid (Blk (w3.setCell ⟨b, 0, none⟩ (.slice a3 ((ps k).length + 1) c3)) b (.cells #[.slice a3 ((ps k).length + 1) c3, .int .i64 d.size] 76)) := hid (Z.out.1.setAt (i := 0) _)
    have Z2 := hid (Z.out.2.other (Q := b) (i := 0) nb (.slice a3 ((ps k).length + 1) c3))
    clear FIN O4 G4 V4 Z z0 z1 z2 z6 A3 OA HL x3 y1 yw y0 y0a x3a
    generalize w3.setCell ⟨b, 0, none⟩ (.slice a3 ((ps k).length + 1) c3) = w4 at *
    obtain ⟨z0, z1⟩ := Z1.out.two
    have z2 := Z1.out.warm
    obtain ⟨z3, z4, z5, z6⟩ := Z2.out.four
    go_wp2_with fail
    go_region_law (fail)
    all_goals (
      rw [show IntKind.i64.wrap ((d.size : Int) + o.data.size) = ((d ++ o.data).size : Int) by rw [Go.IntWalk.i64_in _ (by omega)]; exact ES.out]
      exact bodyPost_end (v := .tuple #[]) (by simp [results, Try.results112, go_sem]) rfl ⟨rfl, by rw [HK.out]; exact fin.out.drew⟩))

set_option maxRecDepth 100000 in
set_option maxHeartbeats 4000000 in
theorem appDo_none (o : OpV) {w : World} {B c n q : Nat} {look : List UInt8 → Option ByteArray} {m : List UInt8 → Option Nat} {pv : List UInt8 → Value} {ps : List UInt8 → List ByteArray} (h : Shelf w B c n q look m pv ps)
    (hs : o.name.size ≤ maxLen) (hq : q ≤ 100000) (hn : n < maxLen) (hB : B ≤ w.heap.size) (hd : look (key o.name) = none) (hz : o.data.size ≤ 1000000000) :
    Calls Try.prog 112 #[o.val, .map (some c)] w fun e w' => e = .returned (.tuple #[]) ∧ Appended w B c (n + 1) (q + 1) (setL look (key o.name) o.data) w' := by
  unfold OpV.val
  have b0 : Below w.heap.size w (w.alloc (.cells #[.int .i64 o.kind, .string o.name, .string o.to, .string o.data] 98)) := (Below.refl _ w).alloc (Nat.le_refl _) _
  have A0 := Blk.new w (.cells #[.int .i64 o.kind, .string o.name, .string o.to, .string o.data] 98)
  have S0 := h.below b0
  have hmn : (m (key o.name)).isSome = false := by rw [h.dom, hd]; rfl
  have C1 := hid (has_any o.name c n m _ S0.map hs)
  rw [hmn] at C1
  have b1 : Below (w.alloc (.cells #[.int .i64 o.kind, .string o.name, .string o.to, .string o.data] 98)).heap.size (w.alloc (.cells #[.int .i64 o.kind, .string o.name, .string o.to, .string o.data] 98)) ((w.alloc (.cells #[.int .i64 o.kind, .string o.name, .string o.to, .string o.data] 98)).alloc (.cells #[.slice none 0 0, .int .i64 0] 76)) := (Below.refl _ _).alloc (Nat.le_refl _) _
  have c1 := Blk.new (w.alloc (.cells #[.int .i64 o.kind, .string o.name, .string o.to, .string o.data] 98)) (.cells #[.slice none 0 0, .int .i64 0] 76)
  obtain ⟨W, hrun, M2, g2⟩ := (S0.map.below b1).update hs hn (w.alloc (.cells #[.int .i64 o.kind, .string o.name, .string o.to, .string o.data] 98)).heap.size
  have bW0 : B ≤ (w.alloc (.cells #[.int .i64 o.kind, .string o.name, .string o.to, .string o.data] 98)).heap.size := Nat.le_trans hB b0.size
  have S2 : ∃ m' pv' ps', Shelf W B c (n + 1) q (setL look (key o.name) ⟨#[]⟩) m' pv' ps' := ⟨_, _, _, S0.put b1 (key o.name) ⟨#[]⟩ _ (.slice none 0 0) [] c1 (Nat.le_refl _) bW0 (World.ownsRow_nil _ _ _ _) rfl (Nat.zero_le _) (fun g hg => by cases hg) M2 g2⟩
  have hd2 : setL look (key o.name) ⟨#[]⟩ (key o.name) = some ⟨#[]⟩ := by simp [setL]
  generalize hde : (⟨#[]⟩ : ByteArray) = d at S2 hd2
  obtain ⟨m, pv, ps, S3⟩ := S2
  have lc := h.map.lt
  have bw1 : Below B w W := ((b0.mono hB).trans (b1.mono bW0)).trans (below_grown g2 (Nat.le_trans bW0 b1.size) (fun j e => by cases e; exact h.lowc))
  have A2 : Blk W w.heap.size (.cells #[.int .i64 o.kind, .string o.name, .string o.to, .string o.data] 98) := (g2.block _ (A0.below b1).lt (fun e => by have e1 : w.heap.size = c := Option.some.inj e; omega)).trans (A0.below b1)
  obtain ⟨b, hb⟩ := Option.isSome_iff_exists.1 (show (m (key o.name)).isSome = true by rw [S3.dom, hd2]; rfl)
  have hl := S3.map.look hs
  rw [hb] at hl
  simp only [Option.map_some] at hl
  have HS0 := hid S3
  have HD := hid hd2
  have HBm := hid hb
  have bl := S3.blk _ _ _ hb hd2
  have blt := bl.lt
  have nb : ¬ b = w.heap.size := fun e => by
    have h1 := bl
    rw [e] at h1
    unfold Blk at h1 A2
    rw [A2] at h1
    simp at h1
  obtain ⟨x0, x1, x2, x3⟩ := A2.four
  obtain ⟨z0', z1', z2', z3'⟩ := A0.four
  obtain ⟨u0, u1, u2, u3⟩ := (A0.below b1).four
  obtain ⟨y0, y1⟩ := bl.two
  have yw := bl.warm
  have HA0 := hid A2
  have HBL := hid bl
  have BW := hid bw1
  have sw : w.heap.size < W.heap.size := A2.lt
  have hsz : (w.alloc (.cells #[.int .i64 o.kind, .string o.name, .string o.to, .string o.data] 98)).heap.size = w.heap.size + 1 := by simp
  rw [hsz] at hrun
  have HDE := hid hde
  have dz : d.size = 0 := by rw [← hde]; rfl
  have hz2 : d.size + o.data.size ≤ 1000000000 := by omega
  clear h S0 hd hb M2 g2 S3 c1 bw1 A2 hd2 hmn b1 lc bW0 hsz hde dz hz
  go_enter Try.func112, Try.ntmps112
  go_wp2_with (go_at_call 115; refine C1.out.mono ?_; rintro e w' ⟨rfl, rfl⟩)
  generalize hk : key o.name = k at *
  have bl1 : Below W.heap.size W ((W.alloc (.cells #[.string o.data] 9)).drew) := below_drew ((Below.refl _ W).alloc (Nat.le_refl _) _)
  have N2 := hid (HS0.out.below bl1)
  have l1 : LiesC ((W.alloc (.cells #[.string o.data] 9)).drew) (some ⟨W.heap.size, 0, none⟩) 1 [.string o.data] := one_str o.data
  have HL := hid l1
  have OA := hid (N2.out.own k d HD.out).1
  have lm : (ps k).length ≤ 100000 := by have := (N2.out.own k d HD.out).2.2; omega
  have bW : B ≤ W.heap.size := by omega
  have s1 : B ≤ ((W.alloc (.cells #[.string o.data] 9)).drew).heap.size := Nat.le_trans bW bl1.size
  have A3 : Hid (∀ w3 : World, ((W.alloc (.cells #[.string o.data] 9)).drew).grownBy w3 (pv k).ownBlock → Blk w3 b (.cells #[pv k, .int .i64 d.size] 76) ∧ Blk w3 w.heap.size (.cells #[.int .i64 o.kind, .string o.name, .string o.to, .string o.data] 98)) := hid (fun w3 g3 =>
    ⟨(g3.block b (HBL.out.below bl1).lt (own_neS OA.out (HBL.out.below bl1) (by decide))).trans (HBL.out.below bl1), (g3.block _ (HA0.out.below bl1).lt (own_neS OA.out (HA0.out.below bl1) (by decide))).trans (HA0.out.below bl1)⟩)
  have FIN : Hid (∀ (a3 : Option Addr) (c3 : Nat) (w3 : World), OwnS w3 B (.slice a3 ((ps k).length + 1) c3) (ps k ++ [o.data]) → ((W.alloc (.cells #[.string o.data] 9)).drew).grownBy w3 (pv k).ownBlock → ((Value.slice a3 ((ps k).length + 1) c3).ownBlock = (pv k).ownBlock ∨ (Value.slice a3 ((ps k).length + 1) c3).ownBlock = some ((W.alloc (.cells #[.string o.data] 9)).drew).heap.size) →
      Appended w B c (n + 1) (q + 1) (setL (setL look k d) k (d ++ o.data)) ((w3.setCell ⟨b, 0, none⟩ (.slice a3 ((ps k).length + 1) c3)).setCell ⟨b, 1, none⟩ (.int .i64 (d ++ o.data).size))) := hid (fun a3 c3 w3 h3 g3 v3 =>
    ⟨_, _, _, N2.out.more k d o.data b HBm.out HD.out _ h3 g3 v3, (((BW.out.trans (bl1.mono bW)).trans (below_grown g3 s1 (fun j hj => (World.ownsRow.lt OA.out j hj).1))).setCell (N2.out.low k b HBm.out) _).setCell (N2.out.low k b HBm.out) _⟩)
  have y0a : (W.alloc (.cells #[.string o.data] 9)).cell? ⟨b, 0, none⟩ = some (pv k) := (((Below.refl _ W).alloc (Nat.le_refl _) _).cell (p := ⟨b, 0, none⟩) blt).trans y0
  have x3a : (W.alloc (.cells #[.string o.data] 9)).cell? ⟨w.heap.size, 3, none⟩ = some (.string o.data) := (((Below.refl _ W).alloc (Nat.le_refl _) _).cell (p := ⟨w.heap.size, 3, none⟩) sw).trans x3
  have un : ¬ b = W.heap.size := by omega
  have pn : ¬ w.heap.size = W.heap.size := by omega
  have ES : Hid ((d.size : Int) + o.data.size = ((d ++ o.data).size : Nat)) := hid (by rw [ByteArray.size_append]; omega)
  have HK := hid hk
  clear l1 bl1 C1 z0' z1' z2' z3' u0 u1 u2 u3 hrun hl HS0 HD HBm bl HA0 HBL x0 x1 x2 b0 hk A0 N2
  go_region_law ((refine step_append_str (by rfl) _ _ (by rfl) B (pv k) (ps k) (by rfl) OA.out _ 1 o.data (by rfl) HL.out lm s1 ?_; intro a3 c3 w3 O3 g3 v3; have Z := hid (A3.out w3 g3); obtain ⟨z0, z1⟩ := Z.out.1.two; have z2 := Z.out.1.warm; obtain ⟨_, _, _, z6⟩ := Z.out.2.four; have O4 := hid O3; have G4 := hid g3; have V4 := hid v3; clear O3 g3 v3))
  all_goals (
    have fin := hid (FIN.out _ _ _ O4.out G4.out V4.out)
    have Z1 : Hid (Blk (w3.setCell ⟨b, 0, none⟩ (.slice a3 ((ps k).length + 1) c3)) b (.cells #[.slice a3 ((ps k).length + 1) c3, .int .i64 d.size] 76)) := hid (Z.out.1.setAt (i := 0) _)
    have Z2 := hid (Z.out.2.other (Q := b) (i := 0) nb (.slice a3 ((ps k).length + 1) c3))
    clear FIN O4 G4 V4 Z z0 z1 z2 z6 A3 OA HL x3 y1 yw y0 y0a x3a
    generalize w3.setCell ⟨b, 0, none⟩ (.slice a3 ((ps k).length + 1) c3) = w4 at *
    obtain ⟨z0, z1⟩ := Z1.out.two
    have z2 := Z1.out.warm
    obtain ⟨z3, z4, z5, z6⟩ := Z2.out.four
    go_wp2_with fail
    go_region_law (fail)
    all_goals (
      rw [show IntKind.i64.wrap ((d.size : Int) + o.data.size) = ((d ++ o.data).size : Int) by rw [Go.IntWalk.i64_in _ (by omega)]; exact ES.out]
      exact bodyPost_end (v := .tuple #[]) (by simp [results, Try.results112, go_sem]) rfl ⟨rfl, by have e : d ++ o.data = o.data := (by rw [← HDE.out, empty_add]); have := fin.out.drew; rw [setL_twice, e] at this; rw [HK.out, e]; exact this⟩))
end Go.Proofs.Ytcchpeebhkiacaa
