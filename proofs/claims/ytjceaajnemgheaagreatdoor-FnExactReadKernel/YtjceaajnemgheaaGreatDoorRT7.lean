/- The reader of the program: a kernel. -/
import Derived.Test.YtjceaajnemgheaaGreatDoorZ45
import Derived.Test.YtjceaajnemgheaaGreatDoorZ13
namespace Go.Proofs.YtjceaajnemgheaaGreatDoor
open Go Go.RowKit Go.Deep Go.Maps Go.BigFrame Go.Shelf
structure KNew (W w' : World) (ts : List TD) (os : List OD) (ta oa : Option Addr) (ca co : Nat) (lt : List ThrV) (lo : List ObjV) : Prop where
  st : KSt w' W.heap.size (.slice ta lt.length ca) (.slice oa lo.length co) lt lo
  ap : Apart lt lo
  at' : (kOf ta ca oa co lt lo).at w'
  same : (kerD ts os).same (kOf ta ca oa co lt lo)
  ln : lt.length ≤ 1048576 ∧ lo.length ≤ 1048576
def KerA (u : TypeId) (pv : Value) (rb : Nat) (W : World) (L : List UInt8) (e : Ending) (W' : World) : Prop := (∃ (ts : List TD) (os : List OD) (ta oa : Option Addr) (ca co : Nat) (lt : List ThrV) (lo : List ObjV), strK L = some (ts, os) ∧ e = .returned (.agg #[.slice ta lt.length ca, .slice oa lo.length co]) ∧ KNew W W' ts os ta oa ca co lt lo ∧ W.grownBy W' (some rb)) ∨ (strK L = none ∧ e = gaveUp u pv ∧ W.grownBy W' (some rb))
theorem results15 (tmps : Array Value) (W : World) (P : Nat) (x y : Value) (h : Blk W P (.cells #[x, y] 25)) (h2 : tmps[2]? = some (.pointer (some ⟨P, 0, none⟩))) :
    (results Tryz.f15 tmps).run Tryz.prog W = .ok (.agg #[x, y]) W := by
  obtain ⟨z0, z1⟩ := h.two
  simp [results, Tryz.results15, go_sem, h2, z0, z1]
theorem ISt.ker {u : TypeId} {pv : Value} {W wr : World} {rb ca co : Nat} {ts : List TD} {os : List OD} {ta oa : Option Addr} {lt : List ThrV} {lo : List ObjV} {Q : List UInt8} (h : ISt u pv W wr rb ts os (.slice ta lt.length ca) (.slice oa lo.length co) lt lo Q) (h1 : lt.length ≤ 1048576) (h2 : lo.length ≤ 1048576) : (kOf ta ca oa co lt lo).at wr ∧ (kerD ts os).same (kOf ta ca oa co lt lo) ∧ (∀ x ∈ lo, x.data.size ≤ maxLen) ∧ (kerD ts os).wfs := by
  have dats : ∀ x ∈ lo, x.data.size ≤ maxLen := fun x hx => by
    obtain ⟨i, hi, rfl⟩ := List.getElem_of_mem hx
    have hi' : i < os.length := by rw [← h.lO]; exact hi
    have s := h.sO i hi'
    rw [atO_get hi] at s
    obtain ⟨_, _, _, _, _, e, _⟩ := s
    rw [e]
    show (bytesOf (os.getD i zO).data).size ≤ maxLen
    rw [bytesOf_size]
    have := (h.dz (os.getD i zO) (by simp [hi'])).1
    unfold maxLen
    omega
  refine ⟨h.st.at h1 h2 dats, ⟨h.lT, fun j hj => h.sT j hj, h.lO, fun j hj => h.sO j hj⟩, dats, fun i hi => ?_⟩
  have hi' : i < os.length := hi
  obtain ⟨_, n1, n2⟩ := h.dz (os.getD i zO) (by simp [hi'])
  have f : ∀ {x : Int}, inN x → (Lit.int .i64 x).wf = true := fun {x} hx => by
    have a := hx.1
    have b := hx.2
    have e1 : IntKind.i64.min = -9223372036854775808 := rfl
    have e2 : IntKind.i64.max = 9223372036854775807 := rfl
    simp only [Lit.wf, Bool.and_eq_true, decide_eq_true_eq, e1, e2]
    omega
  exact ⟨f n1, f n2⟩
theorem step_appendT {ops : Array Oper} {oo : Oper} {a : Act} {w : World} {K : Act → World → Prop} {Q : Exit → Act → World → Prop} {E : Prop} (hgd : oo.guard = none) (s x : Operand)
    (ho : oo.op = .call { callee := .builtin .append, args := #[s, x], argTypes := #[22, 22] })
    (B : Nat) (v : Value) (l : List ThrV) (hs : a.eval s = v) (hown : OwnT w B v l) (ad : Option Addr) (c : Nat) (y : ThrV) (hx : a.eval x = .slice ad 1 c) (hc : LiesC w ad 1 (cells7 [y])) (hn : l.length ≤ 1048576) (hB : B ≤ w.heap.size) (d : Option Nat) (hd : oo.dst = d)
    (h : ∀ a' c' w', OwnT w' B (.slice a' (l.length + 1) c') (l ++ [y]) → w.grownBy w' v.ownBlock → K (a.put d (.slice a' (l.length + 1) c')) w') :
    if Region.wanted oo (yielded ops a.tmps) = true then Oper.wp Tryz.prog oo a w K Q else E := by
  subst hd
  exact step_appendOwnT hgd s x ho B v l hs hown ad c y hx hc hn hB h
theorem step_appendO {ops : Array Oper} {oo : Oper} {a : Act} {w : World} {K : Act → World → Prop} {Q : Exit → Act → World → Prop} {E : Prop} (hgd : oo.guard = none) (s x : Operand)
    (ho : oo.op = .call { callee := .builtin .append, args := #[s, x], argTypes := #[23, 23] })
    (B : Nat) (v : Value) (l : List ObjV) (hs : a.eval s = v) (hown : OwnOb w B v l) (ad : Option Addr) (c : Nat) (y : ObjV) (hx : a.eval x = .slice ad 1 c) (hc : LiesC w ad 1 (cells10 [y])) (hn : l.length ≤ 1048576) (hB : B ≤ w.heap.size) (d : Option Nat) (hd : oo.dst = d)
    (h : ∀ a' c' w', OwnOb w' B (.slice a' (l.length + 1) c') (l ++ [y]) → w.grownBy w' v.ownBlock → K (a.put d (.slice a' (l.length + 1) c')) w') :
    if Region.wanted oo (yielded ops a.tmps) = true then Oper.wp Tryz.prog oo a w K Q else E := by
  subst hd
  exact step_appendOwnOb hgd s x ho B v l hs hown ad c y hx hc hn hB h
set_option maxRecDepth 1000000 in
set_option maxHeartbeats 16000000 in
theorem kernel_any (u : TypeId) (pv : Value) (rb : Nat) (L : List UInt8) (W : World) (hL : L.length ≤ 500000) (hR : Rdr W rb L) (hE : Err u pv W) (h0 : rb ≠ 0) :
    Calls Tryz.prog 15 #[.pointer (some ⟨rb, 0, none⟩)] W fun e W' => KerA u pv rb W L e W' := by
  have lr := Blk.lt hR
  have W0 : 0 < W.heap.size := by omega
  have E30 : Hid (∀ args w, (callFunc 30 args).run Tryz.prog w = .ok (.enter 30 args) w) := hid (enters_of Tryz.func30 (by kernel_rfl) rfl)
  have E31 : Hid (∀ args w, (callFunc 31 args).run Tryz.prog w = .ok (.enter 31 args) w) := hid (enters_of Tryz.func31 (by kernel_rfl) rfl)
  have E32 : Hid (∀ args w, (callFunc 32 args).run Tryz.prog w = .ok (.enter 32 args) w) := hid (enters_of Tryz.func32 (by kernel_rfl) rfl)
  have b0 : Below W.heap.size W ((W.alloc (.cells #[.slice none 0 0, .slice none 0 0] 25)).alloc (.cells #[.slice none 0 0, .slice none 0 0] 25)) := ((Below.refl _ W).alloc (Nat.le_refl _) _).alloc (by simp) _
  have S0 : Hid (ISt u pv W ((W.alloc (.cells #[.slice none 0 0, .slice none 0 0] 25)).alloc (.cells #[.slice none 0 0, .slice none 0 0] 25)) rb [] [] (.slice none 0 0) (.slice none 0 0) [] [] L) := hid ⟨⟨OwnT.nil _ _, OwnOb.nil _ _, fun x hx => absurd hx List.not_mem_nil, fun x hx => absurd hx List.not_mem_nil, fun x hx => absurd hx List.not_mem_nil, fun x hx => absurd hx List.not_mem_nil⟩, rfl, fun i hi => absurd hi (Nat.not_lt_zero _), rfl, fun i hi => absurd hi (Nat.not_lt_zero _), fun d hd => absurd hd List.not_mem_nil, Apart.nil, (Blk.new W (.cells #[.slice none 0 0, .slice none 0 0] 25)).alloc _, by simpa using Blk.new (W.alloc (.cells #[.slice none 0 0, .slice none 0 0] 25)) (.cells #[.slice none 0 0, .slice none 0 0] 25), hR.below b0, hE.below b0, belowOnly b0 _⟩
  have EQ := hid (strK_s L)
  clear b0 hR hE
  go_enter Tryz.func15, Tryz.ntmps15
  go_wp2
  go_loopw [] (fun wr => ∃ (ts : List TD) (Q : List UInt8) (ta : Option Addr) (ca : Nat) (lt : List ThrV), ISt u pv W wr rb ts [] (.slice ta lt.length ca) (.slice none 0 0) lt [] Q ∧ Hid (sTh [] L = sTh ts Q) ∧ Hid (ts.length + Q.length ≤ L.length)) (fun wr => rdN wr rb)
  case atStart => exact ⟨[], L, none, 0, [], S0.out, hid rfl, hid (by simp)⟩
  case round =>
    clear S0
    obtain ⟨ts, Q, ta, ca, lt, hS, HI, HB⟩ := hrel
    have S1 := hid hS
    clear hS
    have T1 := hid (takes_any rb Q thrW wr (by decide) S1.out.r)
    have rn0 : Hid (rdN wr rb = Q.length) := hid (rdN_of S1.out.r)
    have lq : Q.length ≤ 500000 := by have := HB.out; omega
    have lm1 : lt.length ≤ 1048576 := by rw [S1.out.lT]; have := HB.out; omega
    go_wp2_with fail
    refine T1.out.mono ?_
    rintro e v1 ⟨rfl, R1, G1⟩
    have S2 := hid (S1.out.read G1 R1 lr h0)
    clear T1 S1 R1 G1
    cases ht : takesL thrW Q with
    | some Q2 =>
      rw [ht] at S2
      have q2 := takes_len ht
      have p1 := cutL_len1 10 Q2
      have p2 := cutL_len2 10 Q2
      have S3 : Hid (ISt u pv W v1 rb ts [] (.slice ta lt.length ca) (.slice none 0 0) lt [] Q2) := S2
      have HT := hid ht
      clear S2 ht
      go_wp2_with fail
      refine wp_region_G 8 (fun w => Blk w (W.heap.size + 1) (.cells #[.slice ta lt.length ca, .slice none 0 0] 25)) (by kernel_rfl) ?_
      have D3 := hid (S3.out.below ((Below.refl _ v1).drew))
      clear S3
      generalize v1.drew = v2 at *
      refine tq 0 6 (.pointer (some ⟨W.heap.size + 1, 0, none⟩)) D3.out.k ?_
      simp only [ap, List.set]
      refine tq 1 7 (.slice ta lt.length ca) D3.out.k ?_ (hy := fun w h => by obtain ⟨z0, z1⟩ := h.two; go_simp)
      simp only [ap, List.set]
      refine tq 2 8 (.pointer (some ⟨rb, 0, none⟩)) D3.out.k ?_
      simp only [ap, List.set]
      refine wpAnyG_one (i := 3) (by kernel_rfl) rfl ?_
      intro K hK
      refine step_call1p (by rfl) 30 _ _ (by rfl) E30.out _ (by rfl) (some 9) (by rfl) (fun v w' => (cutL 10 Q2).2.2 = true ∧ ∃ lb, v = .pointer (some ⟨lb, 0, none⟩) ∧ v2.heap.size ≤ lb ∧ Rdr w' lb ((cutL 10 Q2).1 ++ [32]) ∧ Rdr w' rb (cutL 10 Q2).2.1 ∧ v2.grownBy w' (some rb)) (fun c w' => (cutL 10 Q2).2.2 = false ∧ gaveUp u pv = .panicked c ∧ v2.grownBy w' (some rb)) ((line_any u pv rb Q2 v2 (by omega) D3.out.r D3.out.e).mono fun e w' h => ?_) ?_ ?_
      · rcases h with ⟨h1, lb, h2, h3⟩ | ⟨h1, h2, h3⟩
        · exact Or.inl ⟨_, h2, h1, lb, rfl, h3⟩
        · exact Or.inr ⟨_, h2, h1, rfl, h3⟩
      rotate_left
      · rintro c w' ⟨h1, h2, h3⟩
        have eo : strK L = none := by rw [EQ.out, HI.out, sTh_open HT.out h1]
        unfold gaveUp at h2
        cases h2
        exact ⟨rfl, Or.inr ⟨eo, rfl, grown_same D3.out.g h3⟩⟩
      rintro v v3 ⟨hf, lb, rfl, hlb, Rl, R3, G3⟩
      have S4 := hid (D3.out.read G3 R3 lr h0)
      have K0 := hid D3.out.st
      have sz2 := D3.out.size
      have sv3 := G3.size
      rw [jn_words] at Rl
      have RL := hid Rl
      have HF := hid hf
      have GG3 := hid G3
      have RB3 := hid R3
      refine hK.out _ _ (fun _ => S4.out.k) ?_
      clear hK K R3 G3 Rl hf
      simp only [ap, List.set]
      have HN := hid (words_no (cutL 10 Q2).1)
      have jl : (jn (wordsL (cutL 10 Q2).1)).length ≤ 1048576 := by rw [← jn_words]; simp; omega
      refine wpAnyG_one (i := 4) (by kernel_rfl) rfl ?_
      intro K hK
      refine step_call1p (by rfl) 31 _ _ (by rfl) E31.out _ (by rfl) (some 10) (by rfl) (fun v w' => ∃ (d : TD) (x : ThrV), thrS (wordsL (cutL 10 Q2).1) = some d ∧ v = x.val ∧ d.v.same x ∧ x.new v3.heap.size w' ∧ (x.own.n ≤ x.own.k ∧ x.own.k ≤ maxLen) ∧ x.cb.Nodup ∧ v3.grownBy w' (some lb)) (fun c w' => thrS (wordsL (cutL 10 Q2).1) = none ∧ gaveUp u pv = .panicked c ∧ v3.grownBy w' (some lb)) ((thread_any u pv lb _ v3 jl HN.out RL.out S4.out.e (by omega)).mono fun e w' h => ?_) ?_ ?_
      · rcases h with ⟨d, x, h1, h2, h3⟩ | ⟨h1, h2, h3⟩
        · exact Or.inl ⟨_, h2, d, x, h1, rfl, h3⟩
        · exact Or.inr ⟨_, h2, h1, rfl, h3⟩
      rotate_left
      · rintro c w' ⟨h1, h2, h3⟩
        have eo : strK L = none := by rw [EQ.out, HI.out, sTh_bad HT.out HF.out h1]
        unfold gaveUp at h2
        cases h2
        exact ⟨rfl, Or.inr ⟨eo, rfl, grown_hi S4.out.g h3 (by omega)⟩⟩
      rintro v v4 ⟨d, x, hs, rfl, hsm, hnew, hroom, hnd, G4⟩
      have S5 := hid (D3.out.read (grown_hi GG3.out G4 hlb) (RB3.out.grown G4 (by omega)) lr h0)
      have HI2 := hid (HI.out.trans (sTh_more HT.out HF.out hs))
      have sv4 := G4.size
      refine hK.out _ _ (fun _ => S5.out.k) ?_
      clear hK K S4 G4 RL HN jl HF HT HI hs D3 GG3 RB3
      unfold ThrV.val CatL.val IntL.val
      simp only [ap, List.set]
      refine wpAnyG_one (i := 5) (by kernel_rfl) rfl ?_
      intro K hK
      have bb := (Below.refl _ v4).alloc (Nat.le_refl _) (.cells #[.int .i64 x.id, .int .i64 x.b1, .slice x.c1.a x.c1.n x.c1.k, .int .i64 x.b2, .slice x.c2.a x.c2.n x.c2.k, .slice x.own.a x.own.n x.own.k, .int .i64 x.made] 41)
      have S6 := hid (S5.out.below bb)
      have X6 := hid (hnew.keeps (KeepsK.of_below bb).l)
      have ONE := hid (OwnT.one v4 x)
      unfold CatL.val IntL.val at ONE
      go_simp
      refine hK.out _ _ (fun _ => S6.out.k) ?_
      clear hK K S5 bb hnew
      try simp only [ap, List.set]
      generalize v4.alloc (.cells #[.int .i64 x.id, .int .i64 x.b1, .slice x.c1.a x.c1.n x.c1.k, .int .i64 x.b2, .slice x.c2.a x.c2.n x.c2.k, .slice x.own.a x.own.n x.own.k, .int .i64 x.made] 41) = v5 at *
      refine wpAnyG_one (i := 6) (by kernel_rfl) rfl ?_
      intro K hK
      refine step_appendT (by rfl) _ _ (by rfl) W.heap.size (.slice ta lt.length ca) lt (by rfl) S6.out.st.t _ 1 x (by rfl) ONE.out lm1 S6.out.g.size (some 12) (by rfl) ?_
      intro a9 c9 v6 O9 G9
      have AD := S6.out.addT (d := d) K0.out sv3 O9 G9 X6.out (by omega) hsm hroom hnd lr W0
      have B9 := hid AD.1
      have S8 := hid AD.2
      refine hK.out _ _ (fun _ => B9.out) ?_
      clear hK K S6 AD O9 G9 ONE X6
      simp only [ap, List.set]
      refine wpAnyG_one (i := 7) (by kernel_rfl) rfl ?_
      intro K hK
      go_simp
      refine hK.out _ _ (fun _ => B9.out) ?_
      clear hK K
      try simp only [ap, List.set]
      refine wpAnyG_one (i := 8) (by kernel_rfl) rfl ?_
      intro K hK
      have wf := B9.out.warm
      obtain ⟨z0, z1⟩ := B9.out.two
      go_simp
      refine hK.out _ _ (fun h => absurd h (by decide)) ?_
      clear hK K
      refine wpAnyG_done (by kernel_rfl) ?_ _
      have rn1 : Hid (rdN (v6.setCell ⟨W.heap.size + 1, 0, none⟩ (.slice a9 (lt.length + 1) c9)) rb = (cutL 10 Q2).2.1.length) := hid (rdN_of S8.out.r)
      clear z0 z1 wf B9
      go_wp2
      exact ⟨⟨ts ++ [d], (cutL 10 Q2).2.1, a9, c9, lt ++ [x], by rw [List.length_append]; exact S8.out, HI2, hid (by have := HB.out; simp; omega)⟩, by rw [rn1.out, rn0.out]; omega⟩
    | none =>
      rw [ht] at S2
      have S3 : Hid (ISt u pv W v1 rb ts [] (.slice ta lt.length ca) (.slice none 0 0) lt [] Q) := S2
      rw [HI.out, sTh_end ht] at EQ
      clear S2 ht HI rn0
      go_wp2
      go_loopw [] (fun wr => ∃ (os : List OD) (Q4 : List UInt8) (oa : Option Addr) (co : Nat) (lo : List ObjV), ISt u pv W wr rb ts os (.slice ta lt.length ca) (.slice oa lo.length co) lt lo Q4 ∧ Hid (sOb [] Q = sOb os Q4) ∧ Hid (os.length + Q4.length ≤ L.length)) (fun wr => rdN wr rb)
      case atStart => exact ⟨[], Q, none, 0, [], S3.out, hid rfl, hid (by have := HB.out; simp; omega)⟩
      case round =>
        clear S3
        obtain ⟨os, Q4, oa, co, lo, hS, HI, HB4⟩ := hrel
        have S4 := hid hS
        clear hS
        have rn0 : Hid (rdN wr rb = Q4.length) := hid (rdN_of S4.out.r)
        have c1 := Blk.one S4.out.r
        have lq4 : Q4.length ≤ 500000 := by have := HB4.out; omega
        have lm2 : lo.length ≤ 1048576 := by rw [S4.out.lO]; have := HB4.out; omega
        by_cases hq : Q4 = []
        · subst hq
          have e0 : (bytesOf []).toList.isEmpty = true := by rw [emptyR]; rfl
          have KK := hid (S4.out.ker lm1 lm2)
          rw [HI.out, sOb_end] at EQ
          obtain ⟨k0, k1⟩ := S4.out.k.two
          have CK := hid (implKer_any (kOf ta ca oa co lt lo) wr KK.out.1 (own_room S4.out.st.o).1 (KK.out.2.1.wfs KK.out.2.2.2))
          rw [kerOk_same KK.out.2.1] at CK
          unfold KerV.val kOf at CK
          clear HI rn0
          go_wp2_with fail
          refine CK.out.mono ?_
          rintro e v3 ⟨rfl, hb3⟩
          have S5 := hid (S4.out.below hb3)
          clear CK S4 c1 k0 k1 hb3
          cases hk : kerOk (kerD ts os) with
          | false =>
            have eo : strK L = none := by rw [EQ.out]; simp [hk]
            go_wp2_with (go_at_call 33; refine (must_no u pv _ S5.out.e).mono ?_; rintro e v4 ⟨rfl, rfl⟩; unfold gaveUp)
            exact ⟨rfl, Or.inr ⟨eo, rfl, S5.out.g⟩⟩
          | true =>
            have eo : Hid (strK L = some (ts, os)) := hid (by rw [EQ.out]; simp [hk])
            have zz := S5.out.z
            have wf := zz.warm
            obtain ⟨y0, y1⟩ := zz.two
            obtain ⟨k0, k1⟩ := S5.out.k.two
            have Z2 := hid ((zz.setAt (i := 0) (.slice ta lt.length ca)).setAt (i := 1) (.slice oa lo.length co))
            have K2 := hid ((S5.out.st.setK (i := 0) zz (.slice ta lt.length ca)).setK (i := 1) (zz.setAt (i := 0) (.slice ta lt.length ca)) (.slice oa lo.length co))
            clear EQ hk
            go_wp2_with (go_at_call 33; refine (must_yes _).mono ?_; rintro e v4 ⟨rfl, rfl⟩)
            exact bodyPost_ret (results15 _ _ W.heap.size _ _ Z2.out rfl) rfl (Or.inl ⟨ts, os, ta, oa, ca, co, lt, lo, eo.out, rfl, ⟨K2.out, S5.out.ap, K2.out.at lm1 lm2 KK.out.2.2.1, KK.out.2.1, ⟨lm1, lm2⟩⟩, grown_new (grown_new S5.out.g (Nat.le_refl _) _ _) (Nat.le_refl _) _ _⟩)
        · have e0 : (bytesOf Q4).toList.isEmpty = false := by rw [emptyR]; exact decide_eq_false hq
          have HQ := hid hq
          clear hq
          go_wp2_with fail
          refine wp_region_G 7 (fun w => Blk w (W.heap.size + 1) (.cells #[.slice ta lt.length ca, .slice oa lo.length co] 25)) (by kernel_rfl) ?_
          have D3 := hid (S4.out.below ((Below.refl _ wr).drew))
          clear S4 c1
          generalize wr.drew = v2 at *
          refine tq 0 19 (.pointer (some ⟨W.heap.size + 1, 1, none⟩)) D3.out.k ?_
          simp only [ap, List.set]
          refine tq 1 20 (.slice oa lo.length co) D3.out.k ?_ (hy := fun w h => by obtain ⟨z0, z1⟩ := h.two; go_simp)
          simp only [ap, List.set]
          refine tq 2 21 (.pointer (some ⟨rb, 0, none⟩)) D3.out.k ?_
          simp only [ap, List.set]
          refine wpAnyG_one (i := 3) (by kernel_rfl) rfl ?_
          intro K hK
          refine step_call1p (by rfl) 32 _ _ (by rfl) E32.out _ (by rfl) (some 22) (by rfl) (fun v w' => ∃ (d : OD) (q : List UInt8) (x : ObjV), strOb Q4 = some (d, q) ∧ v = x.val ∧ d.v.same x ∧ x.new v2.heap.size w' ∧ (x.items.n ≤ x.items.k ∧ x.items.k ≤ maxLen) ∧ x.cb.Nodup ∧ d.data.length ≤ 1048576 ∧ Rdr w' rb q ∧ v2.grownBy w' (some rb)) (fun c w' => strOb Q4 = none ∧ gaveUp u pv = .panicked c ∧ v2.grownBy w' (some rb)) ((object_any u pv rb Q4 v2 (by omega) D3.out.r D3.out.e h0).mono fun e w' h => ?_) ?_ ?_
          · rcases h with ⟨d, q, x, h1, h2, h3⟩ | ⟨h1, h2, h3⟩
            · exact Or.inl ⟨_, h2, d, q, x, h1, rfl, h3⟩
            · exact Or.inr ⟨_, h2, h1, rfl, h3⟩
          rotate_left
          · rintro c w' ⟨h1, h2, h3⟩
            have eo : strK L = none := by rw [EQ.out, HI.out, sOb_bad HQ.out h1]
            unfold gaveUp at h2
            cases h2
            exact ⟨rfl, Or.inr ⟨eo, rfl, grown_same D3.out.g h3⟩⟩
          rintro v v4 ⟨d, q, x, hs, rfl, hsm, hnew, hroom, hnd, hdz, R4, G4⟩
          have S5 := hid (D3.out.read G4 R4 lr h0)
          have HI2 := hid (HI.out.trans (sOb_more HQ.out hs))
          have sl := strOb_len hs
          have din := strOb_in hs
          have K0 := hid D3.out.st
          have sz2 := D3.out.size
          refine hK.out _ _ (fun _ => S5.out.k) ?_
          clear hK K D3 G4 R4 HI hs HQ
          simp only at HI2 sl din
          unfold ObjV.val CatL.val IntL.val StrL.val
          simp only [ap, List.set]
          refine wpAnyG_one (i := 4) (by kernel_rfl) rfl ?_
          intro K hK
          have bb := (Below.refl _ v4).alloc (Nat.le_refl _) (.cells #[.int .i64 x.id, .int .i64 x.kind, .int .i64 x.up, .int .i64 x.b1, .slice x.c1.a x.c1.n x.c1.k, .string x.data, .slice x.items.a x.items.n x.items.k, .slice x.own.a x.own.n x.own.k, .int .i64 x.b2, .slice x.c2.a x.c2.n x.c2.k] 45)
          have S6 := hid (S5.out.below bb)
          have X6 := hid (hnew.keeps (KeepsK.of_below bb).l)
          have ONE := hid (OwnOb.one v4 x)
          unfold CatL.val IntL.val StrL.val at ONE
          go_simp
          refine hK.out _ _ (fun _ => S6.out.k) ?_
          clear hK K S5 bb hnew
          try simp only [ap, List.set]
          generalize v4.alloc (.cells #[.int .i64 x.id, .int .i64 x.kind, .int .i64 x.up, .int .i64 x.b1, .slice x.c1.a x.c1.n x.c1.k, .string x.data, .slice x.items.a x.items.n x.items.k, .slice x.own.a x.own.n x.own.k, .int .i64 x.b2, .slice x.c2.a x.c2.n x.c2.k] 45) = v5 at *
          refine wpAnyG_one (i := 5) (by kernel_rfl) rfl ?_
          intro K hK
          refine step_appendO (by rfl) _ _ (by rfl) W.heap.size (.slice oa lo.length co) lo (by rfl) S6.out.st.o _ 1 x (by rfl) ONE.out lm2 S6.out.g.size (some 24) (by rfl) ?_
          intro a9 c9 v6 O9 G9
          have AD := S6.out.addO (d := d) K0.out (Nat.le_refl _) O9 G9 X6.out (by omega) hsm hroom hnd ⟨hdz, din⟩ lr W0
          have B9 := hid AD.1
          have S8 := hid AD.2
          refine hK.out _ _ (fun _ => B9.out) ?_
          clear hK K S6 AD O9 G9 ONE X6
          simp only [ap, List.set]
          refine wpAnyG_one (i := 6) (by kernel_rfl) rfl ?_
          intro K hK
          go_simp
          refine hK.out _ _ (fun _ => B9.out) ?_
          clear hK K
          try simp only [ap, List.set]
          refine wpAnyG_one (i := 7) (by kernel_rfl) rfl ?_
          intro K hK
          have wf := B9.out.warm
          obtain ⟨z0, z1⟩ := B9.out.two
          go_simp
          refine hK.out _ _ (fun h => absurd h (by decide)) ?_
          clear hK K
          refine wpAnyG_done (by kernel_rfl) ?_ _
          have rn1 : Hid (rdN (v6.setCell ⟨W.heap.size + 1, 1, none⟩ (.slice a9 (lo.length + 1) c9)) rb = q.length) := hid (rdN_of S8.out.r)
          clear z0 z1 wf B9
          go_wp2
          exact ⟨⟨os ++ [d], q, a9, c9, lo ++ [x], by rw [List.length_append]; exact S8.out, HI2, hid (by have := HB4.out; simp; omega)⟩, by rw [rn1.out, rn0.out]; omega⟩
end Go.Proofs.YtjceaajnemgheaaGreatDoor
