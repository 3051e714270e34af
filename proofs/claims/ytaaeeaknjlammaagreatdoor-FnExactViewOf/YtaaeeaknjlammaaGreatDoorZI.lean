/- Texts put together. -/
import Derived.Test.YtaaeeaknjlammaaGreatDoorZM
import Derived.Test.YtaaeeaknjlammaaGreatDoorZT
import Derived.Test.YtaaeeaknjlammaaGreatDoorZF
/- A page is written to: a line of words; words of numbers. -/
namespace Go.Proofs.YtaaeeaknjlammaaGreatDoor
open Go Go.RowKit Go.Deep Go.Maps Go.BigFrame Go.Shelf

/-- the page at b holds these bytes -/
def Pg (B b : Nat) (L : List UInt8) (w : World) : Prop := Lib.IsBuilder 80 5 B b (Lib.byteCells L) w
theorem Pg.below {B b : Nat} {L : List UInt8} {w w' : World} (h : Pg B b L w) (hb : Below w.heap.size w w') : Pg B b L w' := isBuilder_below h hb
theorem Pg.lt {B b : Nat} {L : List UInt8} {w : World} (h : Pg B b L w) : b < w.heap.size := isBuilder_lt h
theorem Pg.ge {B b : Nat} {L : List UInt8} {w : World} (h : Pg B b L w) : B ≤ b := by
  rcases h with h | h
  · exact h.1
  · exact h.1
theorem Pg.new (w : World) : Pg w.heap.size w.heap.size [] (w.alloc (.cells #[.pointer none, .slice none 0 0] 80)) :=
  Or.inl ⟨Nat.le_refl _, .slice none 0 0, blk_alloc_new _ _, World.ownsRow_nil _ _ _ _, by simp [Value.ownBlock]⟩
def wordsL (ws : List ByteArray) : List (List UInt8) := ws.map (·.data.toList)

set_option maxRecDepth 100000 in
set_option maxHeartbeats 4000000 in
theorem line_any (B b : Nat) (L : List UInt8) (g c : Nat) (ws : List ByteArray) (w : World) (hP : Pg B b L w) (hg : g < w.heap.size) (hcells : ∀ (j : Nat) x, ws[j]? = some x → w.cell? ⟨g, 0 + j, none⟩ = some (.string x))
    (hn : ws.length ≤ 1000) (hcap : ws.length ≤ c) (hl : L.length ≤ 10000000) (hj : (lineL (wordsL ws)).length ≤ 100000) :
    Calls Tryz.prog 31 #[.pointer (some ⟨b, 0, none⟩), .slice (some ⟨g, 0, none⟩) ws.length c] w fun e w' => e = .returned (.tuple #[]) ∧ Pg B b (L ++ lineL (wordsL ws)) w' ∧ Below B w w' ∧ Keeps5 b w w' := by
  have EJ : ∀ args w, (callFunc 58 args).run Tryz.prog w = .ok (.enter 58 args) w := enters_of Tryz.func58 (by kernel_rfl) rfl
  have EW : ∀ args w, (callFunc 57 args).run Tryz.prog w = .ok (.enter 57 args) w := enters_of Tryz.func57 (by kernel_rfl) rfl
  have jl : (Lib.join (wordsL ws) [32]).length + 1 = (lineL (wordsL ws)).length := by simp [lineL]
  have PJ : Hid (Calls Tryz.prog 58 #[.slice (some ⟨g, 0, none⟩) ws.length c, .string (ByteArray.mk #[32])] w.drew fun e w' => ∃ v, e = .returned v ∧ v = .string ⟨(Lib.join (wordsL ws) [32]).toArray⟩ ∧ Below w.drew.heap.size w.drew w') := hid ((Tryz.strings_Join g 0 c ws (ByteArray.mk #[32]) w.drew hcells hg (by omega) hcap (by show (Lib.join (wordsL ws) [32]).length ≤ _; omega)).mono fun e w' ⟨h1, h2⟩ => ⟨_, h1, rfl, h2⟩)
  have HP := hid hP
  have ZZ : (⟨(Lib.join (wordsL ws) [32]).toArray⟩ : ByteArray).size ≤ 100000 := by rw [mk_size, List.size_toArray]; omega
  have EQ : Hid ((⟨(Lib.join (wordsL ws) [32]).toArray⟩ : ByteArray) ++ ByteArray.mk #[10] = ⟨(lineL (wordsL ws)).toArray⟩) := hid (by
    have e : ByteArray.mk #[10] = ⟨[10].toArray⟩ := rfl
    rw [e, bytes_app]; rfl)
  have PW : Hid (∀ W, Below w.heap.size w W → Calls Tryz.prog 57 #[.pointer (some ⟨b, 0, none⟩), .string ((⟨(Lib.join (wordsL ws) [32]).toArray⟩ : ByteArray) ++ ByteArray.mk #[10])] W fun e w' => ∃ v, e = .returned v ∧ Pg B b (L ++ lineL (wordsL ws)) w' ∧ Below B w w' ∧ Keeps5 b w w') := hid (fun W hW => by
    rw [EQ.out]
    have hp := HP.out.below hW
    have hw := writeString_T 80 Tryz.lies80 (by decide) B b (Lib.byteCells L) ⟨(lineL (wordsL ws)).toArray⟩ W hp (by rw [Lib.byteCells_length, mk_size, List.size_toArray]; omega) (Nat.le_of_lt (Nat.lt_of_le_of_lt hp.ge hp.lt))
    refine hw.mono ?_
    rintro e w' ⟨rfl, h1, h2, h3⟩
    refine ⟨_, rfl, ?_, (hW.mono (Nat.le_of_lt (Nat.lt_of_le_of_lt HP.out.ge HP.out.lt))).trans h2, fun P cs T hT hPb hh => h3 P cs T hT hPb ((hW.block P (Array.getElem?_eq_some_iff.1 hh).1).trans hh)⟩
    unfold Pg
    rw [← byte_app]
    exact h1)
  clear hP hcells jl hj
  generalize (⟨(Lib.join (wordsL ws) [32]).toArray⟩ : ByteArray) = J at *
  go_enter Tryz.func31, Tryz.ntmps31
  refine wp_region_G 7 (fun _ => True) (by kernel_rfl) ?_
  refine wpAnyG_takeD (i := 0) (d := 4) (.pointer (some ⟨b, 0, none⟩)) rfl rfl (by kernel_rfl) (by kernel_rfl) (by kernel_rfl) (by kernel_rfl) (by kernel_rfl) (by kernel_rfl) (fun _ _ _ h => h) (Or.inl ⟨by rfl, fun W h => by go_simp⟩) trivial ?_
  simp only [Act.put, List.setIfInBounds_toArray, List.set_cons_zero, List.set_cons_succ]
  refine wpAnyG_takeD (i := 1) (d := 5) (.pointer (some ⟨b, 0, none⟩)) rfl rfl (by kernel_rfl) (by kernel_rfl) (by kernel_rfl) (by kernel_rfl) (by kernel_rfl) (by kernel_rfl) (fun _ _ _ h => h) (Or.inl ⟨by rfl, fun W h => by go_simp⟩) trivial ?_
  simp only [Act.put, List.setIfInBounds_toArray, List.set_cons_zero, List.set_cons_succ]
  refine wpAnyG_takeD (i := 2) (d := 6) (.pointer (some ⟨b, 0, none⟩)) rfl rfl (by kernel_rfl) (by kernel_rfl) (by kernel_rfl) (by kernel_rfl) (by kernel_rfl) (by kernel_rfl) (fun _ _ _ h => h) (Or.inl ⟨by rfl, fun W h => by go_simp⟩) trivial ?_
  simp only [Act.put, List.setIfInBounds_toArray, List.set_cons_zero, List.set_cons_succ]
  refine wpAnyG_takeD (i := 3) (d := 7) (.slice (some ⟨g, 0, none⟩) ws.length c) rfl rfl (by kernel_rfl) (by kernel_rfl) (by kernel_rfl) (by kernel_rfl) (by kernel_rfl) (by kernel_rfl) (fun _ _ _ h => h) (Or.inl ⟨by rfl, fun W h => by go_simp⟩) trivial ?_
  simp only [Act.put, List.setIfInBounds_toArray, List.set_cons_zero, List.set_cons_succ]
  refine wpAnyG_one (i := 4) (by kernel_rfl) rfl ?_
  intro K hK
  refine step_call2g (by rfl) 58 _ _ _ (by rfl) EJ _ _ (by rfl) (by rfl) (some 8) (by rfl) _ PJ.out ?_
  rintro v w1 ⟨rfl, h1⟩
  refine hK.out _ _ (fun _ => trivial) ?_
  clear hK K
  simp only [Act.put, List.setIfInBounds_toArray, List.set_cons_zero, List.set_cons_succ]
  refine wpAnyG_takeD (i := 5) (d := 9) (.string (J ++ ByteArray.mk #[10])) rfl rfl (by kernel_rfl) (by kernel_rfl) (by kernel_rfl) (by kernel_rfl) (by kernel_rfl) (by kernel_rfl) (fun _ _ _ h => h) (Or.inl ⟨by rfl, fun W h => by go_simp; omega⟩) trivial ?_
  simp only [Act.put, List.setIfInBounds_toArray, List.set_cons_zero, List.set_cons_succ]
  have V1 : Below w.heap.size w w1 := then_ (Below.refl _ w).drew h1
  refine wpAnyG_one (i := 6) (by kernel_rfl) rfl ?_
  intro K hK
  refine step_call2g (by rfl) 57 _ _ _ (by rfl) EW _ _ (by rfl) (by rfl) (some 10) (by rfl) _ (PW.out w1 V1) ?_
  rintro v w2 ⟨p2, b2, k2⟩
  refine hK.out _ _ (fun _ => trivial) ?_
  clear hK K
  refine wpAnyG_done (by kernel_rfl) ?_ _
  exact bodyPost_end (v := .tuple #[]) (by simp [results, Tryz.results31, go_sem]) rfl ⟨rfl, p2, b2, k2⟩

theorem wpList_append_strs {ops : Array Oper} {rest : List Oper} {o : Oper} {a : Act} {Q : Exit → Act → World → Prop} (w : World) (hgd : o.guard = none) (s x : Operand)
    (ho : o.op = .call { callee := .builtin .append, args := #[s, x], argTypes := #[58, 58] })
    (B : Nat) (v : Value) (l : List ByteArray) (hs : a.eval s = v) (hown : OwnS w B v l) (ad : Option Addr) (m c : Nat) (l' : List ByteArray) (hx : a.eval x = .slice ad m c) (hm' : l'.length = m) (hc : LiesC w ad m (scells l'))
    (hm : l.length + m ≤ 100000) (h0 : 0 < l.length) (hB : B ≤ w.heap.size)
    (h : ∀ g c' w', OwnS w' B (.slice (some ⟨g, 0, none⟩) (l ++ l').length c') (l ++ l') → w.grownBy w' v.ownBlock → wpList Tryz.prog ops Q rest (a.put o.dst (.slice (some ⟨g, 0, none⟩) (l ++ l').length c')) w') : wpList Tryz.prog ops Q (o :: rest) a w := by
  subst hm'
  refine wpList_plain hgd fun _ hK => wp_append_gen Tryz.underlying58 Tryz.info9 rfl (by omega) w s x ho B v l.length _ hs hown ad l'.length c _ hx (by simp [scells]) hc (fun u hu => by obtain ⟨y, _, rfl⟩ := List.mem_map.1 hu; rfl) (by omega) (by omega) hB fun a' c' w' h2 h3 _ => hK _ _ ?_
  have e1 : scells l ++ scells l' = scells (l ++ l') := by simp [scells]
  have e2 : l.length + l'.length = (l ++ l').length := by simp
  rw [e1] at h2
  obtain ⟨g, cap, hv, _, _⟩ := World.ownsRow.form h2 (by omega)
  simp only [Value.slice.injEq] at hv
  obtain ⟨rfl, _, _⟩ := hv
  rw [e2] at h2 ⊢
  exact h g c' w' h2 h3
theorem OwnS.cells {w : World} {B g c : Nat} {l : List ByteArray} (h : OwnS w B (.slice (some ⟨g, 0, none⟩) l.length c) l) : g < w.heap.size ∧ l.length ≤ c ∧ ∀ (j : Nat) x, l[j]? = some x → w.cell? ⟨g, 0 + j, none⟩ = some (.string x) := by
  refine ⟨(World.ownsRow.lt h g rfl).2, ?_, fun j x hx => ?_⟩
  · rcases h.2 with ⟨hv, _⟩ | ⟨g', cap, cur, hv, _, hh, hnc, _⟩
    · simp at hv
    · simp only [Value.slice.injEq] at hv
      obtain ⟨_, _, rfl⟩ := hv
      exact hnc
  · have hj : j < l.length := (List.getElem?_eq_some_iff.1 hx).1
    have := World.ownsRow.cellAt h (0 + j) (by simpa using hj)
    rw [this, Nat.zero_add]
    simp only [scells, List.getElem?_map, hx, Option.map_some]
/-- numbers as words -/
def decs (ns : List Int) : List ByteArray := ns.map fun x => ⟨(dc x).toArray⟩
theorem decs_words (ns : List Int) : wordsL (decs ns) = ns.map dc := by simp [wordsL, decs, Function.comp_def]

set_option maxRecDepth 100000 in
set_option maxHeartbeats 1000000 in
theorem decs_any (x : IntL) (w : World) (hx : x.at w) (hn : x.n ≤ 1000) (hr : ∀ i, i < x.n → small (x.h i)) (ht : Tab w) :
    Calls Tryz.prog 61 #[x.val] w fun e w' => ∃ a c, e = .returned (.slice a x.n c) ∧ LiesC w' a x.n (scells (decs (nums x))) ∧ Below w.heap.size w w' := by
  obtain ⟨a0, n, cap, f⟩ := x
  simp only at hr hn
  have HC := hid hx.2
  simp only at HC
  unfold IntL.val nums
  simp only
  have HR := hid hr
  have HT := hid ht
  clear hx hr ht
  go_enter Tryz.func61, Tryz.ntmps61
  go_wp2
  go_loopw [3, 8] (fun v i wr => ∃ k : Nat, k ≤ n ∧ i = .int .i64 k ∧ (∃ a c, v = .slice a k c) ∧ OwnS wr w.heap.size v ((List.range k).map fun i => decB (f i)) ∧ Below w.heap.size w wr) (fun _ i _ => n - (intOf i).toNat)
  case atStart => exact ⟨0, Nat.zero_le _, rfl, ⟨_, _, rfl⟩, World.ownsRow_nil _ _ _ _, Below.refl _ _⟩
  case round =>
    obtain ⟨k, hk, rfl, ⟨a, c, rfl⟩, hO, hB⟩ := hrel
    have OO := hid hO
    clear hO
    by_cases hlt : k < n
    · obtain ⟨b, off, rfl, hb, hc⟩ := HC.out (by omega)
      have c1 : wr.cell? ⟨b, off + k, none⟩ = some (.int .i64 (f k)) := (hB.cell (p := ⟨b, off + k, none⟩) hb).trans (hc k hlt)
      have r1 := HR.out k hlt
      have D := hid (dec_any (f k) wr r1.1 (by have := r1.2; omega) (HT.out.below hB))
      have i1 : (k : Int) < (n : Int) := by omega
      have EX : Hid (((List.range k).map fun i => decB (f i)) ++ [decB (f k)] = (List.range (k + 1)).map fun i => decB (f i)) := by show _ = _; rw [List.range_succ, List.map_append]; rfl
      have lm : ((List.range k).map fun i => decB (f i)).length = k := by simp
      clear hc r1
      generalize ((List.range k).map fun i => decB (f i)) = L at *
      generalize decB (f k) = X at *
      have lm2 : L.length ≤ 2000000 := by omega
      go_wp2_with (first
        | (go_at_call 59; refine D.out.mono ?_; rintro e w3 ⟨rfl, h3⟩; have HO3 := hid ((OO.out.below h3).alloc (.cells #[.string X] 9)); have HL3 := hid (one_str (w := w3) X); have sz3 := hid (Nat.le_trans (then_ hB h3).size (show w3.heap.size ≤ (w3.alloc (.cells #[.string X] 9)).heap.size by rw [World.size_alloc]; exact Nat.le_succ _)))
        | (at_builtin; refine wpList_append_str _ rfl _ _ rfl w.heap.size _ L rfl HO3.out _ 1 X rfl HL3.out lm2 sz3.out ?_; intro g4 c4 w4 O4 hg4; have OX4 := hid O4; have GX4 := hid hg4; clear O4 hg4))
      have B3 := then_ hB h3
      have B4 : Below w.heap.size w w4 := (B3.alloc B3.size (.cells #[.string X] 9)).trans (below_grown GX4.out sz3.out (fun j hj => (World.ownsRow.lt HO3.out j hj).1))
      have el : (L ++ [X]).length = k + 1 := by simp [lm]
      have OF := OX4.out
      rw [el, EX.out] at OF
      exact ⟨⟨k + 1, by omega, rfl, ⟨_, c4, rfl⟩, OF, B4⟩, by simp [intOf]; omega⟩
    · have ek : k = n := by omega
      subst ek
      have e5 : ((List.range k).map fun i => decB (f i)) = decs ((List.range k).map f) := by simp [decs, decB, dc, Function.comp_def]
      have el : ((List.range k).map fun i => decB (f i)).length = k := by simp
      have LC : LiesC wr a k (scells (decs ((List.range k).map f))) := by
        rw [← e5]
        have := OO.out
        unfold OwnS at this
        rw [el] at this
        exact LiesC.own this
      have HLC := hid LC
      clear LC e5 el OO
      go_wp2
      go_ret
      exact ⟨a, c, rfl, HLC.out, hB⟩
end Go.Proofs.YtaaeeaknjlammaaGreatDoor

/- A page is written to: threads and objects. -/
namespace Go.Proofs.YtaaeeaknjlammaaGreatDoor
open Go Go.RowKit Go.Deep Go.Maps Go.BigFrame Go.Shelf

theorem dec_i (x : Int) (w : World) (h : small x) (ht : Tab w) : Calls Tryz.prog 59 #[.int .i64 x] w fun e w' => e = .returned (.string (⟨(dc x).toArray⟩ : ByteArray)) ∧ Below w.heap.size w w' := dec_any x w h.1 (by have := h.2; omega) ht
theorem txt_i (b : Int) (c : CatL) (w : World) (hc : c.at w) (h : labOk b c.n c.f c.g = true) (ht : Tab w) : Calls Tryz.prog 32 #[.agg #[.int .i64 b, c.val]] w fun e w' => e = .returned (.string (⟨(lb b c).toArray⟩ : ByteArray)) ∧ Below w.heap.size w w' := by
  have := implText_any b c.a c.n c.k c.f c.g w hc.1 hc.2 ht
  rw [ltext, if_pos h] at this
  exact this
theorem own5 (w : World) (B : Nat) (hb : B ≤ w.heap.size) (x0 x1 x2 x3 x4 : ByteArray) : OwnS (w.alloc (.cells #[.string x0, .string x1, .string x2, .string x3, .string x4] 9)) B (.slice (some ⟨w.heap.size, 0, none⟩) 5 5) [x0, x1, x2, x3, x4] :=
  ⟨rfl, .inr ⟨w.heap.size, 5, _, rfl, hb, blk_alloc_new _ _, Nat.le_refl _, by unfold maxLen; omega, rfl, rfl⟩⟩
theorem own6 (w : World) (B : Nat) (hb : B ≤ w.heap.size) (x0 x1 x2 x3 x4 x5 : ByteArray) : OwnS (w.alloc (.cells #[.string x0, .string x1, .string x2, .string x3, .string x4, .string x5] 9)) B (.slice (some ⟨w.heap.size, 0, none⟩) 6 6) [x0, x1, x2, x3, x4, x5] :=
  ⟨rfl, .inr ⟨w.heap.size, 6, _, rfl, hb, blk_alloc_new _ _, Nat.le_refl _, by unfold maxLen; omega, rfl, rfl⟩⟩
theorem own2 (w : World) (B : Nat) (hb : B ≤ w.heap.size) (x0 x1 : ByteArray) : OwnS (w.alloc (.cells #[.string x0, .string x1] 9)) B (.slice (some ⟨w.heap.size, 0, none⟩) 2 2) [x0, x1] :=
  ⟨rfl, .inr ⟨w.heap.size, 2, _, rfl, hb, blk_alloc_new _ _, Nat.le_refl _, by unfold maxLen; omega, rfl, rfl⟩⟩
theorem LiesC.belowS {w w' : World} {a : Option Addr} {n : Nat} {cs : List Value} (h : LiesC w a n cs) (hb : Below w.heap.size w w') : LiesC w' a n cs := h.below hb
/-- behind new memory and a page's line -/
theorem Keeps5.after {b : Nat} {w a c : World} (h : Below w.heap.size w a) (k : Keeps5 b a c) : Keeps5 b w c := fun P cs T hT hP hh => k P cs T hT hP ((h.block P (Array.getElem?_eq_some_iff.1 hh).1).trans hh)
theorem Keeps5.trans {b : Nat} {w a c : World} (h : Keeps5 b w a) (k : Keeps5 b a c) : Keeps5 b w c := fun P cs T hT hP hh => k P cs T hT hP (h P cs T hT hP hh)

set_option maxRecDepth 100000 in
set_option maxHeartbeats 8000000 in
theorem pthread_any (B b : Nat) (L : List UInt8) (t : ThrV) (w : World) (hP : Pg B b L w) (ht : t.at w) (hok : thrOkV t = true) (tab : Tab w) (hl : L.length ≤ 9000000) :
    Calls Tryz.prog 34 #[.pointer (some ⟨b, 0, none⟩), t.val] w fun e w' => e = .returned (.tuple #[]) ∧ Pg B b (L ++ thrX t) w' ∧ Below B w w' ∧ Keeps5 b w w' := by
  have ED : ∀ args w, (callFunc 59 args).run Tryz.prog w = .ok (.enter 59 args) w := enters_of Tryz.func59 (by kernel_rfl) rfl
  have EX : ∀ args w, (callFunc 32 args).run Tryz.prog w = .ok (.enter 32 args) w := enters_of Tryz.func32 (by kernel_rfl) rfl
  have b0 : Below w.heap.size w (w.alloc (.cells #[.int .i64 t.id, .int .i64 t.b1, .slice t.c1.a t.c1.n t.c1.k, .int .i64 t.b2, .slice t.c2.a t.c2.n t.c2.k, .slice t.own.a t.own.n t.own.k, .int .i64 t.made] 54)) := (Below.refl _ w).alloc (Nat.le_refl _) _
  have A0 := Blk.new w (.cells #[.int .i64 t.id, .int .i64 t.b1, .slice t.c1.a t.c1.n t.c1.k, .int .i64 t.b2, .slice t.c2.a t.c2.n t.c2.k, .slice t.own.a t.own.n t.own.k, .int .i64 t.made] 54)
  have XL := hid (thrX_len hok)
  obtain ⟨p1, p2, p3, p4, p5⟩ := thr_small hok
  have T0 := hid (ht.below b0)
  have HTab := hid (tab.below b0)
  have ow : ∀ i, i < t.own.n → small (t.own.h i) := fun i hi => (own_small p5).2 _ (List.mem_map.2 ⟨i, List.mem_range.2 hi, rfl⟩)
  have on10 := (own_small p5).1
  have HP := hid hP
  unfold ThrV.val CatL.val IntL.val
  clear ht hok tab hP
  go_enter Tryz.func34, Tryz.ntmps34
  go_wp2
  generalize hV : w.alloc (.cells #[.int .i64 t.id, .int .i64 t.b1, .slice t.c1.a t.c1.n t.c1.k, .int .i64 t.b2, .slice t.c2.a t.c2.n t.c2.k, .slice t.own.a t.own.n t.own.k, .int .i64 t.made] 54) = V at *
  have PD1 : Hid (∀ W, Below V.heap.size V W → Calls Tryz.prog 59 #[.int .i64 t.id] W fun e w' => ∃ v, e = .returned v ∧ v = .string (⟨(dc t.id).toArray⟩ : ByteArray) ∧ Below W.heap.size W w') := hid (fun W hW => (dec_i _ W p1 (HTab.out.below hW)).mono fun e w' ⟨h1, h2⟩ => ⟨_, h1, rfl, h2⟩)
  have PD2 : Hid (∀ W, Below V.heap.size V W → Calls Tryz.prog 59 #[.int .i64 t.made] W fun e w' => ∃ v, e = .returned v ∧ v = .string (⟨(dc t.made).toArray⟩ : ByteArray) ∧ Below W.heap.size W w') := hid (fun W hW => (dec_i _ W p2 (HTab.out.below hW)).mono fun e w' ⟨h1, h2⟩ => ⟨_, h1, rfl, h2⟩)
  have PX1 : Hid (∀ W, Below V.heap.size V W → Calls Tryz.prog 32 #[.agg #[.int .i64 t.b1, .slice t.c1.a t.c1.n t.c1.k]] W fun e w' => ∃ v, e = .returned v ∧ v = .string (⟨(lb t.b1 t.c1).toArray⟩ : ByteArray) ∧ Below W.heap.size W w') := hid (fun W hW => (txt_i _ t.c1 W (T0.out.below hW).1 p3 (HTab.out.below hW)).mono fun e w' ⟨h1, h2⟩ => ⟨_, h1, rfl, h2⟩)
  have PX2 : Hid (∀ W, Below V.heap.size V W → Calls Tryz.prog 32 #[.agg #[.int .i64 t.b2, .slice t.c2.a t.c2.n t.c2.k]] W fun e w' => ∃ v, e = .returned v ∧ v = .string (⟨(lb t.b2 t.c2).toArray⟩ : ByteArray) ∧ Below W.heap.size W w') := hid (fun W hW => (txt_i _ t.c2 W (T0.out.below hW).2.1 p4 (HTab.out.below hW)).mono fun e w' ⟨h1, h2⟩ => ⟨_, h1, rfl, h2⟩)
  have PO : Hid (∀ W, Below V.heap.size V W → Calls Tryz.prog 61 #[.slice t.own.a t.own.n t.own.k] W fun e w' => ∃ a c, e = .returned (.slice a t.own.n c) ∧ LiesC w' a t.own.n (scells (decs (nums t.own))) ∧ Below W.heap.size W w') := hid (fun W hW => decs_any t.own W (T0.out.below hW).2.2 (by omega) ow (HTab.out.below hW))
  have WL : Hid (lineL (wordsL ([ByteArray.mk #[116, 104, 114, 101, 97, 100], (⟨(dc t.id).toArray⟩ : ByteArray), (⟨(lb t.b1 t.c1).toArray⟩ : ByteArray), (⟨(lb t.b2 t.c2).toArray⟩ : ByteArray), (⟨(dc t.made).toArray⟩ : ByteArray)] ++ decs (nums t.own))) = thrX t) := hid (by
    unfold thrX
    congr 1
    simp [wordsL, decs, thrW, Function.comp_def])
  have HA : Hid (∀ W, Below V.heap.size V W → Blk W w.heap.size (.cells #[.int .i64 t.id, .int .i64 t.b1, .slice t.c1.a t.c1.n t.c1.k, .int .i64 t.b2, .slice t.c2.a t.c2.n t.c2.k, .slice t.own.a t.own.n t.own.k, .int .i64 t.made] 54)) := hid (fun W h => A0.below h)
  have dl : (decs (nums t.own)).length = t.own.n := by simp [decs, nums]
  have B0 := hid b0
  have szV : w.heap.size < V.heap.size := A0.lt
  clear p1 p2 p3 p4 p5 ow A0 b0 hV
  generalize (⟨(dc t.id).toArray⟩ : ByteArray) = D1 at *
  generalize (⟨(dc t.made).toArray⟩ : ByteArray) = D2 at *
  generalize (⟨(lb t.b1 t.c1).toArray⟩ : ByteArray) = X1 at *
  generalize (⟨(lb t.b2 t.c2).toArray⟩ : ByteArray) = X2 at *
  have V0 : Below V.heap.size V V.drew := (Below.refl _ V).drew
  refine wp_region_G 14 (fun W => Below V.heap.size V W) (by kernel_rfl) ?_
  refine wpAnyG_takeD (i := 0) (d := 5) (.pointer (some ⟨w.heap.size, 0, none⟩)) rfl rfl (by kernel_rfl) (by kernel_rfl) (by kernel_rfl) (by kernel_rfl) (by kernel_rfl) (by kernel_rfl) (fun _ _ _ h => h) (Or.inl ⟨by rfl, fun W h => by go_simp⟩) V0 ?_
  simp only [Act.put, List.setIfInBounds_toArray, List.set_cons_zero, List.set_cons_succ]
  refine wpAnyG_takeD (i := 1) (d := 6) (.int .i64 t.id) rfl rfl (by kernel_rfl) (by kernel_rfl) (by kernel_rfl) (by kernel_rfl) (by kernel_rfl) (by kernel_rfl) (fun _ _ _ h => h) (Or.inl ⟨by rfl, fun W h => by obtain ⟨q0, q1, q2, q3, q4, q5, q6⟩ := (HA.out W h).seven; go_simp⟩) V0 ?_
  simp only [Act.put, List.setIfInBounds_toArray, List.set_cons_zero, List.set_cons_succ]
  refine wpAnyG_takeD (i := 3) (d := 8) (.pointer (some ⟨w.heap.size, 1, none⟩)) rfl rfl (by kernel_rfl) (by kernel_rfl) (by kernel_rfl) (by kernel_rfl) (by kernel_rfl) (by kernel_rfl) (fun _ _ _ h => h) (Or.inl ⟨by rfl, fun W h => by go_simp⟩) V0 ?_
  simp only [Act.put, List.setIfInBounds_toArray, List.set_cons_zero, List.set_cons_succ]
  refine wpAnyG_takeD (i := 4) (d := 9) (.agg #[.int .i64 t.b1, .slice t.c1.a t.c1.n t.c1.k]) rfl rfl (by kernel_rfl) (by kernel_rfl) (by kernel_rfl) (by kernel_rfl) (by kernel_rfl) (by kernel_rfl) (fun _ _ _ h => h) (Or.inl ⟨by rfl, fun W h => by obtain ⟨q0, q1, q2, q3, q4, q5, q6⟩ := (HA.out W h).seven; go_simp⟩) V0 ?_
  simp only [Act.put, List.setIfInBounds_toArray, List.set_cons_zero, List.set_cons_succ]
  refine wpAnyG_takeD (i := 6) (d := 11) (.pointer (some ⟨w.heap.size, 3, none⟩)) rfl rfl (by kernel_rfl) (by kernel_rfl) (by kernel_rfl) (by kernel_rfl) (by kernel_rfl) (by kernel_rfl) (fun _ _ _ h => h) (Or.inl ⟨by rfl, fun W h => by go_simp⟩) V0 ?_
  simp only [Act.put, List.setIfInBounds_toArray, List.set_cons_zero, List.set_cons_succ]
  refine wpAnyG_takeD (i := 7) (d := 12) (.agg #[.int .i64 t.b2, .slice t.c2.a t.c2.n t.c2.k]) rfl rfl (by kernel_rfl) (by kernel_rfl) (by kernel_rfl) (by kernel_rfl) (by kernel_rfl) (by kernel_rfl) (fun _ _ _ h => h) (Or.inl ⟨by rfl, fun W h => by obtain ⟨q0, q1, q2, q3, q4, q5, q6⟩ := (HA.out W h).seven; go_simp⟩) V0 ?_
  simp only [Act.put, List.setIfInBounds_toArray, List.set_cons_zero, List.set_cons_succ]
  refine wpAnyG_takeD (i := 9) (d := 14) (.pointer (some ⟨w.heap.size, 6, none⟩)) rfl rfl (by kernel_rfl) (by kernel_rfl) (by kernel_rfl) (by kernel_rfl) (by kernel_rfl) (by kernel_rfl) (fun _ _ _ h => h) (Or.inl ⟨by rfl, fun W h => by go_simp⟩) V0 ?_
  simp only [Act.put, List.setIfInBounds_toArray, List.set_cons_zero, List.set_cons_succ]
  refine wpAnyG_takeD (i := 10) (d := 15) (.int .i64 t.made) rfl rfl (by kernel_rfl) (by kernel_rfl) (by kernel_rfl) (by kernel_rfl) (by kernel_rfl) (by kernel_rfl) (fun _ _ _ h => h) (Or.inl ⟨by rfl, fun W h => by obtain ⟨q0, q1, q2, q3, q4, q5, q6⟩ := (HA.out W h).seven; go_simp⟩) V0 ?_
  simp only [Act.put, List.setIfInBounds_toArray, List.set_cons_zero, List.set_cons_succ]
  refine wpAnyG_one (i := 2) (by kernel_rfl) rfl ?_
  intro K hK
  refine step_call1g (by rfl) 59 _ _ (by rfl) ED _ (by rfl) (some 7) (by rfl) _ (PD1.out _ V0) ?_
  rintro v w1x ⟨rfl, h1⟩
  have V1 := then_ V0 h1
  refine hK.out _ _ (fun _ => V1) ?_
  clear hK K
  simp only [Act.put, List.setIfInBounds_toArray, List.set_cons_zero, List.set_cons_succ]
  refine wpAnyG_one (i := 5) (by kernel_rfl) rfl ?_
  intro K hK
  refine step_call1g (by rfl) 32 _ _ (by rfl) EX _ (by rfl) (some 10) (by rfl) _ (PX1.out _ V1) ?_
  rintro v w2x ⟨rfl, h2⟩
  have V2 := then_ V1 h2
  refine hK.out _ _ (fun _ => V2) ?_
  clear hK K
  simp only [Act.put, List.setIfInBounds_toArray, List.set_cons_zero, List.set_cons_succ]
  refine wpAnyG_one (i := 8) (by kernel_rfl) rfl ?_
  intro K hK
  refine step_call1g (by rfl) 32 _ _ (by rfl) EX _ (by rfl) (some 13) (by rfl) _ (PX2.out _ V2) ?_
  rintro v w3x ⟨rfl, h3⟩
  have V3 := then_ V2 h3
  refine hK.out _ _ (fun _ => V3) ?_
  clear hK K
  simp only [Act.put, List.setIfInBounds_toArray, List.set_cons_zero, List.set_cons_succ]
  refine wpAnyG_one (i := 11) (by kernel_rfl) rfl ?_
  intro K hK
  refine step_call1g (by rfl) 59 _ _ (by rfl) ED _ (by rfl) (some 16) (by rfl) _ (PD2.out _ V3) ?_
  rintro v w4x ⟨rfl, h4⟩
  have V4 := then_ V3 h4
  refine hK.out _ _ (fun _ => V4) ?_
  clear hK K
  simp only [Act.put, List.setIfInBounds_toArray, List.set_cons_zero, List.set_cons_succ]
  refine wpAnyG_one (i := 12) (by kernel_rfl) rfl ?_
  intro K hK
  go_simp
  have V5 := V4.alloc V4.size (.cells #[.string (ByteArray.mk #[116, 104, 114, 101, 97, 100]), .string D1, .string X1, .string X2, .string D2] 9)
  refine hK.out _ _ (fun _ => V5) ?_
  clear hK K
  refine wpAnyG_takeD (i := 13) (d := 4) (.slice (some ⟨w4x.heap.size, 0, none⟩) 5 5) rfl rfl (by kernel_rfl) (by kernel_rfl) (by kernel_rfl) (by kernel_rfl) (by kernel_rfl) (by kernel_rfl) (fun _ _ _ h => h) (Or.inl ⟨by rfl, fun W h => by go_simp⟩) V5 ?_
  simp only [Act.put, List.setIfInBounds_toArray, List.set_cons_zero, List.set_cons_succ]
  refine wpAnyG_done (by kernel_rfl) ?_ _
  have OW := hid (own5 w4x w.heap.size (Nat.le_trans (Nat.le_of_lt szV) V4.size) (ByteArray.mk #[116, 104, 114, 101, 97, 100]) D1 X1 X2 D2)
  have HV := hid V5
  generalize hU : w4x.alloc (.cells #[.string (ByteArray.mk #[116, 104, 114, 101, 97, 100]), .string D1, .string X1, .string X2, .string D2] 9) = U at *
  have V4s := V4.size
  clear hU PD1 PD2 PX1 PX2 V0 V1 V2 V3 V4 V5 h1 h2 h3 h4
  obtain ⟨x0, x1, x2, x3, x4, x5, x6⟩ := (HA.out U HV.out).seven
  go_wp2_with fail
  refine (PO.out U HV.out).mono ?_
  rintro e w6 ⟨a6, c6, rfl, l6, h6⟩
  have O6 := hid (OW.out.below h6)
  have L6 := hid l6
  have S6 := hid (Nat.le_trans (Nat.le_trans (Nat.le_of_lt szV) HV.out.size) h6.size)
  have N6 := hid (show ([ByteArray.mk #[116, 104, 114, 101, 97, 100], D1, X1, X2, D2] : List ByteArray).length + t.own.n ≤ 100000 by simp; omega)
  clear l6
  go_wp2_with (at_builtin; refine wpList_append_strs _ rfl _ _ rfl w.heap.size _ [ByteArray.mk #[116, 104, 114, 101, 97, 100], D1, X1, X2, D2] rfl O6.out a6 t.own.n c6 (decs (nums t.own)) rfl dl L6.out N6.out (Nat.zero_lt_succ _) S6.out ?_; intro g7 c7 w7 o7 gr7; have O7 := hid o7; have G7 := hid gr7; clear o7 gr7)
  have B7 : Below w.heap.size w w7 := (then_ B0.out (then_ HV.out h6)).trans (below_grown G7.out S6.out (fun j hj => (World.ownsRow.lt O6.out j hj).1))
  obtain ⟨g1, g2, g3⟩ := O7.out.cells
  have CL := hid (line_any B b L g7 c7 ([ByteArray.mk #[116, 104, 114, 101, 97, 100], D1, X1, X2, D2] ++ decs (nums t.own)) w7 (HP.out.below B7) g1 g3 (by simp [dl]; omega) g2 (by omega) (by rw [WL.out]; have := XL.out; omega))
  rw [WL.out] at CL
  have en : ([ByteArray.mk #[116, 104, 114, 101, 97, 100], D1, X1, X2, D2] ++ decs (nums t.own)).length = t.own.n + 1 + 1 + 1 + 1 + 1 := by rw [List.length_append, dl]; simp only [List.length_cons, List.length_nil]; omega
  rw [en] at CL
  have hge := Nat.le_of_lt (Nat.lt_of_le_of_lt HP.out.ge HP.out.lt)
  have HB7 := hid B7
  clear en g1 g2 g3 x0 x1 x2 x3 x4 x5 x6 B7 OW O6 L6 N6 O7 G7 h6
  go_wp2_with fail
  refine CL.out.mono ?_
  rintro e w8 ⟨rfl, p8, b8, k8⟩
  go_wp2
  exact bodyPost_end (v := .tuple #[]) (by simp [results, Tryz.results34, go_sem]) rfl ⟨rfl, p8, (HB7.out.mono hge).trans b8, k8.after HB7.out⟩
end Go.Proofs.YtaaeeaknjlammaaGreatDoor

/- A page is written to: an object. -/
namespace Go.Proofs.YtaaeeaknjlammaaGreatDoor
open Go Go.RowKit Go.Deep Go.Maps Go.BigFrame Go.Shelf

set_option maxRecDepth 100000 in
set_option maxHeartbeats 16000000 in
theorem pobject_any (B b : Nat) (L : List UInt8) (t : ObjV) (ks : IntL) (w : World) (hP : Pg B b L w) (ht : t.at w) (hks : ks.at w) (hok : objOk t = true) (y1 : small t.id) (y2 : small t.up) (hk : ∀ i, i < ks.n → small (ks.h i)) (hkn : ks.n ≤ 271) (tab : Tab w) (hl : L.length ≤ 9000000) (hI : ∀ W, Below B w W → StrAt W t.items.a t.items.n t.items.f) :
    Calls Tryz.prog 36 #[.pointer (some ⟨b, 0, none⟩), t.val, ks.val] w fun e w' => e = .returned (.tuple #[]) ∧ Pg B b (L ++ objT t (nums ks)) w' ∧ Below B w w' ∧ Keeps5 b w w' := by
  have ED : ∀ args w, (callFunc 59 args).run Tryz.prog w = .ok (.enter 59 args) w := enters_of Tryz.func59 (by kernel_rfl) rfl
  have EX : ∀ args w, (callFunc 32 args).run Tryz.prog w = .ok (.enter 32 args) w := enters_of Tryz.func32 (by kernel_rfl) rfl
  have b0 : Below w.heap.size w (w.alloc (.cells #[.int .i64 t.id, .int .i64 t.kind, .int .i64 t.up, .int .i64 t.b1, .slice t.c1.a t.c1.n t.c1.k, .string t.data, .slice t.items.a t.items.n t.items.k, .slice t.own.a t.own.n t.own.k, .int .i64 t.b2, .slice t.c2.a t.c2.n t.c2.k] 60)) := (Below.refl _ w).alloc (Nat.le_refl _) _
  have A0 := Blk.new w (.cells #[.int .i64 t.id, .int .i64 t.kind, .int .i64 t.up, .int .i64 t.b1, .slice t.c1.a t.c1.n t.c1.k, .string t.data, .slice t.items.a t.items.n t.items.k, .slice t.own.a t.own.n t.own.k, .int .i64 t.b2, .slice t.c2.a t.c2.n t.c2.k] 60)
  have hkm : ∀ x ∈ nums ks, small x := fun x hx => by obtain ⟨i, hi, rfl⟩ := List.mem_map.1 hx; exact hk i (List.mem_range.1 hi)
  have XL := hid (objX_len hok y1 y2 hkm (by rw [nums_len]; omega))
  obtain ⟨p1, p2, p3, p4, p5, p6, p7⟩ := obj_parts hok
  have DL := hid (datX_len p4)
  have HD40 := hid p4
  have HIT := hid (And.intro p5 p6)
  have HLL : Hid (∀ j, j ≤ t.items.n → (L ++ objX t (nums ks) ++ datX t.data ++ itmX t.items.f j).length ≤ 10000000) := hid (fun j hj => by
    have h1 := XL.out
    have h2 := DL.out
    have h3 := itmX_len (f := t.items.f) (n := j) (fun i hi => p6 i (by omega))
    simp only [List.length_append]
    omega)
  have FINI : Hid (L ++ objT t (nums ks) = L ++ objX t (nums ks) ++ datX t.data ++ itmX t.items.f t.items.n) := hid (by unfold objT; simp only [List.append_assoc])
  have HI := hid hI
  have T0 := hid (ht.below b0)
  have K0 := hid (hks.below b0)
  have HTab := hid (tab.below b0)
  have ow : ∀ i, i < t.own.n → small (t.own.h i) := fun i hi => (own_small p3).2 _ (List.mem_map.2 ⟨i, List.mem_range.2 hi, rfl⟩)
  have on10 := (own_small p3).1
  have HP := hid hP
  unfold ObjV.val CatL.val IntL.val StrL.val
  clear ht hok tab hP hI hks p4 p5 p6 hkm
  go_enter Tryz.func36, Tryz.ntmps36
  go_wp2
  generalize hV : w.alloc (.cells #[.int .i64 t.id, .int .i64 t.kind, .int .i64 t.up, .int .i64 t.b1, .slice t.c1.a t.c1.n t.c1.k, .string t.data, .slice t.items.a t.items.n t.items.k, .slice t.own.a t.own.n t.own.k, .int .i64 t.b2, .slice t.c2.a t.c2.n t.c2.k] 60) = V at *
  have PD1 : Hid (∀ W, Below V.heap.size V W → Calls Tryz.prog 59 #[.int .i64 t.id] W fun e w' => ∃ v, e = .returned v ∧ v = .string (⟨(dc t.id).toArray⟩ : ByteArray) ∧ Below W.heap.size W w') := hid (fun W hW => (dec_i _ W y1 (HTab.out.below hW)).mono fun e w' ⟨h1, h2⟩ => ⟨_, h1, rfl, h2⟩)
  have PD2 : Hid (∀ W, Below V.heap.size V W → Calls Tryz.prog 59 #[.int .i64 t.kind] W fun e w' => ∃ v, e = .returned v ∧ v = .string (⟨(dc t.kind).toArray⟩ : ByteArray) ∧ Below W.heap.size W w') := hid (fun W hW => (dec_i _ W p7 (HTab.out.below hW)).mono fun e w' ⟨h1, h2⟩ => ⟨_, h1, rfl, h2⟩)
  have PD3 : Hid (∀ W, Below V.heap.size V W → Calls Tryz.prog 59 #[.int .i64 t.up] W fun e w' => ∃ v, e = .returned v ∧ v = .string (⟨(dc t.up).toArray⟩ : ByteArray) ∧ Below W.heap.size W w') := hid (fun W hW => (dec_i _ W y2 (HTab.out.below hW)).mono fun e w' ⟨h1, h2⟩ => ⟨_, h1, rfl, h2⟩)
  have PX1 : Hid (∀ W, Below V.heap.size V W → Calls Tryz.prog 32 #[.agg #[.int .i64 t.b1, .slice t.c1.a t.c1.n t.c1.k]] W fun e w' => ∃ v, e = .returned v ∧ v = .string (⟨(lb t.b1 t.c1).toArray⟩ : ByteArray) ∧ Below W.heap.size W w') := hid (fun W hW => (txt_i _ t.c1 W (T0.out.below hW).1 p1 (HTab.out.below hW)).mono fun e w' ⟨h1, h2⟩ => ⟨_, h1, rfl, h2⟩)
  have PX2 : Hid (∀ W, Below V.heap.size V W → Calls Tryz.prog 32 #[.agg #[.int .i64 t.b2, .slice t.c2.a t.c2.n t.c2.k]] W fun e w' => ∃ v, e = .returned v ∧ v = .string (⟨(lb t.b2 t.c2).toArray⟩ : ByteArray) ∧ Below W.heap.size W w') := hid (fun W hW => (txt_i _ t.c2 W (T0.out.below hW).2.2.2.1 p2 (HTab.out.below hW)).mono fun e w' ⟨h1, h2⟩ => ⟨_, h1, rfl, h2⟩)
  have PO : Hid (∀ W, Below V.heap.size V W → Calls Tryz.prog 61 #[.slice t.own.a t.own.n t.own.k] W fun e w' => ∃ a c, e = .returned (.slice a t.own.n c) ∧ LiesC w' a t.own.n (scells (decs (nums t.own))) ∧ Below W.heap.size W w') := hid (fun W hW => decs_any t.own W (T0.out.below hW).2.2.1 (by omega) ow (HTab.out.below hW))
  have PK : Hid (∀ W, Below V.heap.size V W → Calls Tryz.prog 61 #[.slice ks.a ks.n ks.k] W fun e w' => ∃ a c, e = .returned (.slice a ks.n c) ∧ LiesC w' a ks.n (scells (decs (nums ks))) ∧ Below W.heap.size W w') := hid (fun W hW => decs_any ks W (K0.out.below hW) (by omega) hk (HTab.out.below hW))
  have WL : Hid (lineL (wordsL ([ByteArray.mk #[111, 98, 106, 101, 99, 116], (⟨(dc t.id).toArray⟩ : ByteArray), (⟨(dc t.kind).toArray⟩ : ByteArray), (⟨(dc t.up).toArray⟩ : ByteArray), (⟨(lb t.b1 t.c1).toArray⟩ : ByteArray), (⟨(lb t.b2 t.c2).toArray⟩ : ByteArray)] ++ decs (nums t.own) ++ decs (nums ks))) = objX t (nums ks)) := hid (by
    unfold objX
    congr 1
    simp [wordsL, decs, objW, Function.comp_def])
  have HA : Hid (∀ W, Below V.heap.size V W → Blk W w.heap.size (.cells #[.int .i64 t.id, .int .i64 t.kind, .int .i64 t.up, .int .i64 t.b1, .slice t.c1.a t.c1.n t.c1.k, .string t.data, .slice t.items.a t.items.n t.items.k, .slice t.own.a t.own.n t.own.k, .int .i64 t.b2, .slice t.c2.a t.c2.n t.c2.k] 60)) := hid (fun W h => A0.below h)
  have dl : (decs (nums t.own)).length = t.own.n := by simp [decs, nums]
  have dk : (decs (nums ks)).length = ks.n := by simp [decs, nums]
  have B0 := hid b0
  have szV : w.heap.size < V.heap.size := A0.lt
  clear p1 p2 p3 p7 y1 y2 ow A0 b0 hV hk
  generalize (⟨(dc t.id).toArray⟩ : ByteArray) = D1 at *
  generalize (⟨(dc t.kind).toArray⟩ : ByteArray) = D2 at *
  generalize (⟨(dc t.up).toArray⟩ : ByteArray) = D3 at *
  generalize (⟨(lb t.b1 t.c1).toArray⟩ : ByteArray) = X1 at *
  generalize (⟨(lb t.b2 t.c2).toArray⟩ : ByteArray) = X2 at *
  have V0 : Below V.heap.size V V.drew := (Below.refl _ V).drew
  refine wp_region_G 17 (fun W => Below V.heap.size V W) (by kernel_rfl) ?_
  refine wpAnyG_takeD (i := 0) (d := 9) (.pointer (some ⟨w.heap.size, 0, none⟩)) rfl rfl (by kernel_rfl) (by kernel_rfl) (by kernel_rfl) (by kernel_rfl) (by kernel_rfl) (by kernel_rfl) (fun _ _ _ h => h) (Or.inl ⟨by rfl, fun W h => by go_simp⟩) V0 ?_
  simp only [Act.put, List.setIfInBounds_toArray, List.set_cons_zero, List.set_cons_succ]
  refine wpAnyG_takeD (i := 1) (d := 10) (.int .i64 t.id) rfl rfl (by kernel_rfl) (by kernel_rfl) (by kernel_rfl) (by kernel_rfl) (by kernel_rfl) (by kernel_rfl) (fun _ _ _ h => h) (Or.inl ⟨by rfl, fun W h => by obtain ⟨q0, q1, q2, q3, q4, q5, q6, q7, q8, q9⟩ := (HA.out W h).ten; go_simp⟩) V0 ?_
  simp only [Act.put, List.setIfInBounds_toArray, List.set_cons_zero, List.set_cons_succ]
  refine wpAnyG_takeD (i := 3) (d := 12) (.pointer (some ⟨w.heap.size, 1, none⟩)) rfl rfl (by kernel_rfl) (by kernel_rfl) (by kernel_rfl) (by kernel_rfl) (by kernel_rfl) (by kernel_rfl) (fun _ _ _ h => h) (Or.inl ⟨by rfl, fun W h => by go_simp⟩) V0 ?_
  simp only [Act.put, List.setIfInBounds_toArray, List.set_cons_zero, List.set_cons_succ]
  refine wpAnyG_takeD (i := 4) (d := 13) (.int .i64 t.kind) rfl rfl (by kernel_rfl) (by kernel_rfl) (by kernel_rfl) (by kernel_rfl) (by kernel_rfl) (by kernel_rfl) (fun _ _ _ h => h) (Or.inl ⟨by rfl, fun W h => by obtain ⟨q0, q1, q2, q3, q4, q5, q6, q7, q8, q9⟩ := (HA.out W h).ten; go_simp⟩) V0 ?_
  simp only [Act.put, List.setIfInBounds_toArray, List.set_cons_zero, List.set_cons_succ]
  refine wpAnyG_takeD (i := 6) (d := 15) (.pointer (some ⟨w.heap.size, 2, none⟩)) rfl rfl (by kernel_rfl) (by kernel_rfl) (by kernel_rfl) (by kernel_rfl) (by kernel_rfl) (by kernel_rfl) (fun _ _ _ h => h) (Or.inl ⟨by rfl, fun W h => by go_simp⟩) V0 ?_
  simp only [Act.put, List.setIfInBounds_toArray, List.set_cons_zero, List.set_cons_succ]
  refine wpAnyG_takeD (i := 7) (d := 16) (.int .i64 t.up) rfl rfl (by kernel_rfl) (by kernel_rfl) (by kernel_rfl) (by kernel_rfl) (by kernel_rfl) (by kernel_rfl) (fun _ _ _ h => h) (Or.inl ⟨by rfl, fun W h => by obtain ⟨q0, q1, q2, q3, q4, q5, q6, q7, q8, q9⟩ := (HA.out W h).ten; go_simp⟩) V0 ?_
  simp only [Act.put, List.setIfInBounds_toArray, List.set_cons_zero, List.set_cons_succ]
  refine wpAnyG_takeD (i := 9) (d := 18) (.pointer (some ⟨w.heap.size, 3, none⟩)) rfl rfl (by kernel_rfl) (by kernel_rfl) (by kernel_rfl) (by kernel_rfl) (by kernel_rfl) (by kernel_rfl) (fun _ _ _ h => h) (Or.inl ⟨by rfl, fun W h => by go_simp⟩) V0 ?_
  simp only [Act.put, List.setIfInBounds_toArray, List.set_cons_zero, List.set_cons_succ]
  refine wpAnyG_takeD (i := 10) (d := 19) (.agg #[.int .i64 t.b1, .slice t.c1.a t.c1.n t.c1.k]) rfl rfl (by kernel_rfl) (by kernel_rfl) (by kernel_rfl) (by kernel_rfl) (by kernel_rfl) (by kernel_rfl) (fun _ _ _ h => h) (Or.inl ⟨by rfl, fun W h => by obtain ⟨q0, q1, q2, q3, q4, q5, q6, q7, q8, q9⟩ := (HA.out W h).ten; go_simp⟩) V0 ?_
  simp only [Act.put, List.setIfInBounds_toArray, List.set_cons_zero, List.set_cons_succ]
  refine wpAnyG_takeD (i := 12) (d := 21) (.pointer (some ⟨w.heap.size, 8, none⟩)) rfl rfl (by kernel_rfl) (by kernel_rfl) (by kernel_rfl) (by kernel_rfl) (by kernel_rfl) (by kernel_rfl) (fun _ _ _ h => h) (Or.inl ⟨by rfl, fun W h => by go_simp⟩) V0 ?_
  simp only [Act.put, List.setIfInBounds_toArray, List.set_cons_zero, List.set_cons_succ]
  refine wpAnyG_takeD (i := 13) (d := 22) (.agg #[.int .i64 t.b2, .slice t.c2.a t.c2.n t.c2.k]) rfl rfl (by kernel_rfl) (by kernel_rfl) (by kernel_rfl) (by kernel_rfl) (by kernel_rfl) (by kernel_rfl) (fun _ _ _ h => h) (Or.inl ⟨by rfl, fun W h => by obtain ⟨q0, q1, q2, q3, q4, q5, q6, q7, q8, q9⟩ := (HA.out W h).ten; go_simp⟩) V0 ?_
  simp only [Act.put, List.setIfInBounds_toArray, List.set_cons_zero, List.set_cons_succ]
  refine wpAnyG_one (i := 2) (by kernel_rfl) rfl ?_
  intro K hK
  refine step_call1g (by rfl) 59 _ _ (by rfl) ED _ (by rfl) (some 11) (by rfl) _ (PD1.out _ V0) ?_
  rintro v w1x ⟨rfl, h1⟩
  have V1 := then_ V0 h1
  refine hK.out _ _ (fun _ => V1) ?_
  clear hK K
  simp only [Act.put, List.setIfInBounds_toArray, List.set_cons_zero, List.set_cons_succ]
  refine wpAnyG_one (i := 5) (by kernel_rfl) rfl ?_
  intro K hK
  refine step_call1g (by rfl) 59 _ _ (by rfl) ED _ (by rfl) (some 14) (by rfl) _ (PD2.out _ V1) ?_
  rintro v w2x ⟨rfl, h2⟩
  have V2 := then_ V1 h2
  refine hK.out _ _ (fun _ => V2) ?_
  clear hK K
  simp only [Act.put, List.setIfInBounds_toArray, List.set_cons_zero, List.set_cons_succ]
  refine wpAnyG_one (i := 8) (by kernel_rfl) rfl ?_
  intro K hK
  refine step_call1g (by rfl) 59 _ _ (by rfl) ED _ (by rfl) (some 17) (by rfl) _ (PD3.out _ V2) ?_
  rintro v w3x ⟨rfl, h3⟩
  have V3 := then_ V2 h3
  refine hK.out _ _ (fun _ => V3) ?_
  clear hK K
  simp only [Act.put, List.setIfInBounds_toArray, List.set_cons_zero, List.set_cons_succ]
  refine wpAnyG_one (i := 11) (by kernel_rfl) rfl ?_
  intro K hK
  refine step_call1g (by rfl) 32 _ _ (by rfl) EX _ (by rfl) (some 20) (by rfl) _ (PX1.out _ V3) ?_
  rintro v w4x ⟨rfl, h4⟩
  have V4 := then_ V3 h4
  refine hK.out _ _ (fun _ => V4) ?_
  clear hK K
  simp only [Act.put, List.setIfInBounds_toArray, List.set_cons_zero, List.set_cons_succ]
  refine wpAnyG_one (i := 14) (by kernel_rfl) rfl ?_
  intro K hK
  refine step_call1g (by rfl) 32 _ _ (by rfl) EX _ (by rfl) (some 23) (by rfl) _ (PX2.out _ V4) ?_
  rintro v w5x ⟨rfl, h5⟩
  have V5 := then_ V4 h5
  refine hK.out _ _ (fun _ => V5) ?_
  clear hK K
  simp only [Act.put, List.setIfInBounds_toArray, List.set_cons_zero, List.set_cons_succ]
  refine wpAnyG_one (i := 15) (by kernel_rfl) rfl ?_
  intro K hK
  go_simp
  have V6 := V5.alloc V5.size (.cells #[.string (ByteArray.mk #[111, 98, 106, 101, 99, 116]), .string D1, .string D2, .string D3, .string X1, .string X2] 9)
  refine hK.out _ _ (fun _ => V6) ?_
  clear hK K
  refine wpAnyG_takeD (i := 16) (d := 6) (.slice (some ⟨w5x.heap.size, 0, none⟩) 6 6) rfl rfl (by kernel_rfl) (by kernel_rfl) (by kernel_rfl) (by kernel_rfl) (by kernel_rfl) (by kernel_rfl) (fun _ _ _ h => h) (Or.inl ⟨by rfl, fun W h => by go_simp⟩) V6 ?_
  simp only [Act.put, List.setIfInBounds_toArray, List.set_cons_zero, List.set_cons_succ]
  refine wpAnyG_done (by kernel_rfl) ?_ _
  have OW := hid (own6 w5x V.heap.size V5.size (ByteArray.mk #[111, 98, 106, 101, 99, 116]) D1 D2 D3 X1 X2)
  have HV := hid V6
  generalize hU : w5x.alloc (.cells #[.string (ByteArray.mk #[111, 98, 106, 101, 99, 116]), .string D1, .string D2, .string D3, .string X1, .string X2] 9) = U at *
  clear hU PD1 PD2 PD3 PX1 PX2 V0 V1 V2 V3 V4 V5 V6 h1 h2 h3 h4 h5
  obtain ⟨x0, x1, x2, x3, x4, x5, x6, x7, x8, x9⟩ := (HA.out U HV.out).ten
  go_wp2_with fail
  refine (PO.out U HV.out).mono ?_
  rintro e w6 ⟨a6, c6, rfl, l6, h6⟩
  have O6 := hid (OW.out.below h6)
  have L6 := hid l6
  have S6 := hid (Nat.le_trans HV.out.size h6.size)
  have N6 := hid (show ([ByteArray.mk #[111, 98, 106, 101, 99, 116], D1, D2, D3, X1, X2] : List ByteArray).length + t.own.n ≤ 100000 by simp; omega)
  clear l6
  go_wp2_with (at_builtin; refine wpList_append_strs _ rfl _ _ rfl V.heap.size _ [ByteArray.mk #[111, 98, 106, 101, 99, 116], D1, D2, D3, X1, X2] rfl O6.out a6 t.own.n c6 (decs (nums t.own)) rfl dl L6.out N6.out (Nat.zero_lt_succ _) S6.out ?_; intro g7 c7 w7 o7 gr7; have O7 := hid o7; have G7 := hid gr7; clear o7 gr7)
  have B67 : Below V.heap.size w6 w7 := below_grown G7.out S6.out (fun j hj => (World.ownsRow.lt O6.out j hj).1)
  have BV7 : Below V.heap.size V w7 := (then_ HV.out h6).trans B67
  have en : ([ByteArray.mk #[111, 98, 106, 101, 99, 116], D1, D2, D3, X1, X2] ++ decs (nums t.own)).length = t.own.n + 1 + 1 + 1 + 1 + 1 + 1 := by rw [List.length_append, dl]; simp only [List.length_cons, List.length_nil]; omega
  have O7' := O7.out
  rw [en] at O7'
  have HO7 := hid O7'
  clear O7' O7 G7 B67 h6 O6 L6 N6 S6 OW x0 x1 x2 x3 x4 x5 x6 x7 x8 x9
  refine (PK.out w7 BV7).mono ?_
  rintro e w8 ⟨a8, c8, rfl, l8, h8⟩
  have O8 := hid (HO7.out.below h8)
  have L8 := hid l8
  have S8 := hid (Nat.le_trans BV7.size h8.size)
  have N8 := hid (show ([ByteArray.mk #[111, 98, 106, 101, 99, 116], D1, D2, D3, X1, X2] ++ decs (nums t.own) : List ByteArray).length + ks.n ≤ 100000 by rw [en]; omega)
  have Z8 := hid (show 0 < ([ByteArray.mk #[111, 98, 106, 101, 99, 116], D1, D2, D3, X1, X2] ++ decs (nums t.own) : List ByteArray).length by rw [en]; omega)
  clear l8 HO7
  go_wp2_with (at_builtin; refine wpList_append_strs _ rfl _ _ rfl V.heap.size _ ([ByteArray.mk #[111, 98, 106, 101, 99, 116], D1, D2, D3, X1, X2] ++ decs (nums t.own)) rfl O8.out a8 ks.n c8 (decs (nums ks)) rfl dk L8.out N8.out Z8.out S8.out ?_; intro g9 c9 w9 o9 gr9; have O9 := hid o9; have G9 := hid gr9; clear o9 gr9)
  have B89 : Below V.heap.size w8 w9 := below_grown G9.out S8.out (fun j hj => (World.ownsRow.lt O8.out j hj).1)
  have BV9 : Below V.heap.size V w9 := (then_ BV7 h8).trans B89
  have BW9 := then_ B0.out BV9
  obtain ⟨g1, g2, g3⟩ := O9.out.cells
  have CL : Hid (∀ n, ([ByteArray.mk #[111, 98, 106, 101, 99, 116], D1, D2, D3, X1, X2] ++ decs (nums t.own) ++ decs (nums ks)).length = n → Calls Tryz.prog 31 #[.pointer (some ⟨b, 0, none⟩), .slice (some ⟨g9, 0, none⟩) n c9] w9 fun e w' => e = .returned (.tuple #[]) ∧ Pg B b (L ++ objX t (nums ks)) w' ∧ Below B w9 w' ∧ Keeps5 b w9 w') := hid (fun n hn => by
    have h := line_any B b L g9 c9 ([ByteArray.mk #[111, 98, 106, 101, 99, 116], D1, D2, D3, X1, X2] ++ decs (nums t.own) ++ decs (nums ks)) w9 (HP.out.below BW9) g1 g3 (by rw [List.length_append, en, dk]; omega) g2 (by omega) (by rw [WL.out]; have := XL.out; omega)
    rw [WL.out, hn] at h
    exact h)
  have hge := Nat.le_of_lt (Nat.lt_of_le_of_lt HP.out.ge HP.out.lt)
  have hbw := HP.out.lt
  have XB9 := HA.out w9 BV9
  have HB9 := hid BW9
  clear g1 g2 g3 B89 BV9 BW9 BV7 O8 L8 N8 S8 Z8 O9 G9 h8 HA PK PO
  go_wp2_with fail
  refine (CL.out _ (by rw [List.length_append, en, dk]; omega)).mono ?_
  rintro e w10 ⟨rfl, p10, b10, k10⟩
  have P10 := hid p10
  have B10 : Below B w w10 := (HB9.out.mono hge).trans b10
  have K10 : Keeps5 b w w10 := k10.after HB9.out
  have XB : Blk w10 w.heap.size (.cells #[.int .i64 t.id, .int .i64 t.kind, .int .i64 t.up, .int .i64 t.b1, .slice t.c1.a t.c1.n t.c1.k, .string t.data, .slice t.items.a t.items.n t.items.k, .slice t.own.a t.own.n t.own.k, .int .i64 t.b2, .slice t.c2.a t.c2.n t.c2.k] 60) := k10 _ _ _ (by decide) (by omega) XB9
  clear p10 b10 k10 CL XB9 WL XL
  by_cases hd : t.data.toList.isEmpty = true
  · have E4 : Hid (datX t.data = []) := hid (by rw [datX, if_pos hd])
    have P12 : Hid (Pg B b (L ++ objX t (nums ks) ++ datX t.data) w10) := hid (by rw [E4.out, List.append_nil]; exact P10.out)
    have B12 := B10
    have K12 := K10
    obtain ⟨x0, x1, x2, x3, x4, x5, x6, x7, x8, x9⟩ := XB.ten
    go_wp2
    clear x0 x1 x2 x3 x4 x5 x6 x7 x8 x9 XB
    go_loopw [47] (fun i wr => ∃ j : Nat, j ≤ t.items.n ∧ i = .int .i64 j ∧ Hid (Pg B b (L ++ objX t (nums ks) ++ datX t.data ++ itmX t.items.f j) wr) ∧ Below B w wr ∧ Keeps5 b w wr) (fun i _ => t.items.n - (intOf i).toNat)
    case atStart => exact ⟨0, Nat.zero_le _, rfl, hid (by rw [show itmX t.items.f 0 = [] from rfl, List.append_nil]; exact P12.out), B12, K12⟩
    case round =>
      clear P12 B12 K12
      obtain ⟨j, hj, rfl, HPj, hB, hKp⟩ := hrel
      by_cases hlt : j < t.items.n
      · obtain ⟨ib, io, eia, hib, hci⟩ := (HI.out wr hB) (by omega)
        have c1 := hci j hlt
        have j1 : (j : Int) < (t.items.n : Int) := by omega
        have hi8 := HIT.out.1
        have z8 := HIT.out.2 j hlt
        rw [eia]
        have bU : Below wr.heap.size wr (wr.alloc (.cells #[.string (ByteArray.mk #[105, 116, 101, 109]), .string (t.items.f j)] 9)) := (Below.refl _ wr).alloc (Nat.le_refl _) _
        have OU := own2 wr wr.heap.size (Nat.le_refl _) (ByteArray.mk #[105, 116, 101, 109]) (t.items.f j)
        obtain ⟨g1, g2, g3⟩ := OwnS.cells OU
        have ll := HLL.out j (by omega)
        have wl : lineL (wordsL [ByteArray.mk #[105, 116, 101, 109], t.items.f j]) = lineL [itmW, (t.items.f j).data.toList] := rfl
        have CL := hid (line_any B b (L ++ objX t (nums ks) ++ datX t.data ++ itmX t.items.f j) wr.heap.size 2 [ByteArray.mk #[105, 116, 101, 109], t.items.f j] _ (HPj.out.below bU) g1 g3 (by simp) g2 ll (by
          rw [wl, line_two]
          have : (t.items.f j).data.toList.length = (t.items.f j).size := Array.length_toList
          simp only [List.length_append, itmW, List.length_cons, List.length_nil]
          omega))
        rw [wl, List.append_assoc _ (itmX _ _), ← itmX_succ] at CL
        have hge := HPj.out.ge
        have hlw := HPj.out.lt
        have HBU := hid bU
        clear hci eia g1 g2 g3 OU bU ll wl HPj
        go_wp2_with fail
        refine CL.out.mono ?_
        rintro e w15 ⟨rfl, p15, b15, k15⟩
        have P15 := hid p15
        have B15 : Below B w w15 := hB.trans ((HBU.out.mono (by omega)).trans b15)
        have K15 : Keeps5 b w w15 := hKp.trans (k15.after HBU.out)
        clear p15 b15 k15 CL
        go_wp2
        exact ⟨⟨j + 1, by omega, by go_num, P15, B15, K15⟩, by simp [intOf]; omega⟩
      · have j1 : ¬ (j : Int) < (t.items.n : Int) := by omega
        obtain rfl : j = t.items.n := by omega
        go_wp2
        exact bodyPost_end (v := .tuple #[]) (by simp [results, Tryz.results36, go_sem]) rfl ⟨rfl, by rw [FINI.out]; exact HPj.out, hB, hKp⟩
  · have hd' : t.data.toList.isEmpty = false := by simpa using hd
    have bU : Below w10.heap.size w10 (w10.alloc (.cells #[.string (ByteArray.mk #[100, 97, 116, 97]), .string t.data] 9)) := (Below.refl _ w10).alloc (Nat.le_refl _) _
    have OU := own2 w10 w10.heap.size (Nat.le_refl _) (ByteArray.mk #[100, 97, 116, 97]) t.data
    obtain ⟨g1, g2, g3⟩ := OwnS.cells OU
    have wl : lineL (wordsL [ByteArray.mk #[100, 97, 116, 97], t.data]) = datX t.data := by rw [datX, if_neg hd]; rfl
    have ll := HLL.out 0 (Nat.zero_le _)
    have CL := hid (line_any B b (L ++ objX t (nums ks)) w10.heap.size 2 [ByteArray.mk #[100, 97, 116, 97], t.data] _ (P10.out.below bU) g1 g3 (by simp) g2 (by simp only [List.length_append] at ll ⊢; omega) (by rw [wl]; have := DL.out; omega))
    rw [wl] at CL
    have HBU := hid bU
    have XBU := XB.below bU
    have hlw := P10.out.lt
    have hgw := P10.out.ge
    clear g1 g2 g3 OU bU wl ll hd
    obtain ⟨x0, x1, x2, x3, x4, x5, x6, x7, x8, x9⟩ := XB.ten
    go_wp2_with fail
    refine CL.out.mono ?_
    rintro e w12 ⟨rfl, p12, b12, k12⟩
    have P12 := hid p12
    have B12 : Below B w w12 := B10.trans ((HBU.out.mono (by omega)).trans b12)
    have K12 : Keeps5 b w w12 := K10.trans (k12.after HBU.out)
    have XB12 : Blk w12 w.heap.size (.cells #[.int .i64 t.id, .int .i64 t.kind, .int .i64 t.up, .int .i64 t.b1, .slice t.c1.a t.c1.n t.c1.k, .string t.data, .slice t.items.a t.items.n t.items.k, .slice t.own.a t.own.n t.own.k, .int .i64 t.b2, .slice t.c2.a t.c2.n t.c2.k] 60) := k12 _ _ _ (by decide) (by omega) XBU
    clear x0 x1 x2 x3 x4 x5 x6 x7 x8 x9 p12 b12 k12 CL XB XBU P10 B10 K10 HBU
    have XB := XB12
    clear XB12
    obtain ⟨x0, x1, x2, x3, x4, x5, x6, x7, x8, x9⟩ := XB.ten
    go_wp2
    clear x0 x1 x2 x3 x4 x5 x6 x7 x8 x9 XB
    go_loopw [47] (fun i wr => ∃ j : Nat, j ≤ t.items.n ∧ i = .int .i64 j ∧ Hid (Pg B b (L ++ objX t (nums ks) ++ datX t.data ++ itmX t.items.f j) wr) ∧ Below B w wr ∧ Keeps5 b w wr) (fun i _ => t.items.n - (intOf i).toNat)
    case atStart => exact ⟨0, Nat.zero_le _, rfl, hid (by rw [show itmX t.items.f 0 = [] from rfl, List.append_nil]; exact P12.out), B12, K12⟩
    case round =>
      clear P12 B12 K12
      obtain ⟨j, hj, rfl, HPj, hB, hKp⟩ := hrel
      by_cases hlt : j < t.items.n
      · obtain ⟨ib, io, eia, hib, hci⟩ := (HI.out wr hB) (by omega)
        have c1 := hci j hlt
        have j1 : (j : Int) < (t.items.n : Int) := by omega
        have hi8 := HIT.out.1
        have z8 := HIT.out.2 j hlt
        rw [eia]
        have bU : Below wr.heap.size wr (wr.alloc (.cells #[.string (ByteArray.mk #[105, 116, 101, 109]), .string (t.items.f j)] 9)) := (Below.refl _ wr).alloc (Nat.le_refl _) _
        have OU := own2 wr wr.heap.size (Nat.le_refl _) (ByteArray.mk #[105, 116, 101, 109]) (t.items.f j)
        obtain ⟨g1, g2, g3⟩ := OwnS.cells OU
        have ll := HLL.out j (by omega)
        have wl : lineL (wordsL [ByteArray.mk #[105, 116, 101, 109], t.items.f j]) = lineL [itmW, (t.items.f j).data.toList] := rfl
        have CL := hid (line_any B b (L ++ objX t (nums ks) ++ datX t.data ++ itmX t.items.f j) wr.heap.size 2 [ByteArray.mk #[105, 116, 101, 109], t.items.f j] _ (HPj.out.below bU) g1 g3 (by simp) g2 ll (by
          rw [wl, line_two]
          have : (t.items.f j).data.toList.length = (t.items.f j).size := Array.length_toList
          simp only [List.length_append, itmW, List.length_cons, List.length_nil]
          omega))
        rw [wl, List.append_assoc _ (itmX _ _), ← itmX_succ] at CL
        have hge := HPj.out.ge
        have hlw := HPj.out.lt
        have HBU := hid bU
        clear hci eia g1 g2 g3 OU bU ll wl HPj
        go_wp2_with fail
        refine CL.out.mono ?_
        rintro e w15 ⟨rfl, p15, b15, k15⟩
        have P15 := hid p15
        have B15 : Below B w w15 := hB.trans ((HBU.out.mono (by omega)).trans b15)
        have K15 : Keeps5 b w w15 := hKp.trans (k15.after HBU.out)
        clear p15 b15 k15 CL
        go_wp2
        exact ⟨⟨j + 1, by omega, by go_num, P15, B15, K15⟩, by simp [intOf]; omega⟩
      · have j1 : ¬ (j : Int) < (t.items.n : Int) := by omega
        obtain rfl : j = t.items.n := by omega
        go_wp2
        exact bodyPost_end (v := .tuple #[]) (by simp [results, Tryz.results36, go_sem]) rfl ⟨rfl, by rw [FINI.out]; exact HPj.out, hB, hKp⟩
end Go.Proofs.YtaaeeaknjlammaaGreatDoor
