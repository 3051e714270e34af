/- The contract of strings.Clone's own callee at this program, laid in plain words. -/
import Derived.Test.YtjceaajnemgheaaGreatDoorProg
import Derived.Shelf.Strconv.Clone
import Derived.Shelf.LaysM
import Derived.Ground.NamesProg
import Derived.Test.YtjceaajnemgheaaGreatDoorRT1
import Derived.Test.YtjceaajnemgheaaGreatDoorRK2
import Derived.Test.YtjceaajnemgheaaGreatDoorZ17
namespace Go.Proofs.YtjceaajnemgheaaGreatDoor
open Go.Shelf
def Tryz.cloneA_ren : Go.Shelf.Ren := ⟨fun | 316 => 79 | n => n, fun | 9 => 9 | 3 => 3 | 4 => 4 | 37 => 80 | 0 => 0 | 127 => 116 | 5 => 5 | n => n, fun | n => n⟩
theorem Tryz.cloneA : Go.Proofs.LaysM.n316 Tryz.prog Tryz.cloneA_ren := {
  mixed := by kernel_rfl
  f316 := Tryz.func79.trans (congrArg some (by kernel_rfl))
  t0 := Tryz.underlying0
  a0 := Tryz.isAgg0
  z0 := Tryz.sizeOf0
  v0 := Tryz.zeroValue0
  t3 := Tryz.underlying3
  a3 := Tryz.isAgg3
  z3 := Tryz.sizeOf3
  v3 := Tryz.zeroValue3
  t4 := Tryz.underlying4
  a4 := Tryz.isAgg4
  z4 := Tryz.sizeOf4
  v4 := Tryz.zeroValue4
  t9 := Tryz.underlying9
  a9 := Tryz.isAgg9
  z9 := Tryz.sizeOf9
  v9 := Tryz.zeroValue9
  t37 := Tryz.underlying80
  a37 := Tryz.isAgg80
  z37 := Tryz.sizeOf80
  v37 := Tryz.zeroValue80
  t127 := Tryz.underlying116
  a127 := Tryz.isAgg116
  z127 := Tryz.sizeOf116
  v127 := Tryz.zeroValue116
  t5 := Tryz.underlying5
  a5 := Tryz.isAgg5
  z5 := Tryz.sizeOf5
  v5 := Tryz.zeroValue5
  i0 := by kernel_rfl
  i3 := by kernel_rfl
  i4 := by kernel_rfl
  i5 := by kernel_rfl
  i9 := by kernel_rfl
  i37 := by kernel_rfl
  i127 := by kernel_rfl }
end Go.Proofs.YtjceaajnemgheaaGreatDoor
namespace Go.Proofs.YtjceaajnemgheaaGreatDoor
open Go Go.RowKit Go.Deep Go.Maps

def lenN : Value → Nat
  | .slice _ n _ => n
  | _ => 0
theorem emptyR (l : List UInt8) : (bytesOf l).toList.isEmpty = decide (l = []) := by
  rw [empty_size, bytesOf_size]
  by_cases h : l = [] <;> simp [h]
theorem pre_take (P R : List UInt8) (h : P.length ≤ R.length) : P.isPrefixOf R = decide (R.take P.length = P) := by
  rw [Bool.eq_iff_iff, List.isPrefixOf_iff_prefix, decide_eq_true_eq]
  constructor
  · rintro ⟨t, rfl⟩; simp
  · intro e; exact ⟨R.drop P.length, by conv => lhs; rw [← e]
                                        rw [e]; conv => lhs; lhs; rw [← e]
                                        simp⟩
theorem pre_short (P R : List UInt8) (h : ¬ P.length ≤ R.length) : P.isPrefixOf R = false := by
  rw [← Bool.not_eq_true, List.isPrefixOf_iff_prefix]
  exact fun e => h e.length_le
set_option maxRecDepth 100000 in
set_option maxHeartbeats 1000000 in
theorem hasPrefix_any (R P : List UInt8) (W : World) :
    Calls Tryz.prog 75 #[.string (bytesOf R), .string (bytesOf P)] W fun e W' => e = .returned (.bool (P.isPrefixOf R)) ∧ W' = W := by
  have s1 := bytesOf_size R
  have s2 := bytesOf_size P
  by_cases h : P.length ≤ R.length
  · have i1 : ((bytesOf P).size : Int) ≤ ((bytesOf R).size : Int) := by rw [s1, s2]; omega
    have ex : (bytesOf R).extract 0 (bytesOf P).size = bytesOf (R.take P.length) := by rw [ext_take, bytesOf_list, s2]; rfl
    have i2 : (bytesOf P).size ≤ (bytesOf R).size := by omega
    by_cases e : R.take P.length = P
    · have et : Hid (P.isPrefixOf R = true) := hid (by rw [pre_take P R h]; exact decide_eq_true e)
      rw [et.out]
      rw [e] at ex
      clear s1 s2 e
      go_enter Tryz.func75, Tryz.ntmps75
      go_wp2
      go_ret
      exact ⟨rfl, rfl⟩
    · have et : Hid (P.isPrefixOf R = false) := hid (by rw [pre_take P R h]; exact decide_eq_false e)
      rw [et.out]
      have ne : ((bytesOf (R.take P.length)).toList == (bytesOf P).toList) = false := by
        rw [ByteArray.toList_eq, ByteArray.toList_eq, bytesOf_list, bytesOf_list]; simpa using e
      clear s1 s2 e
      go_enter Tryz.func75, Tryz.ntmps75
      go_wp2
      go_ret
      exact ⟨rfl, rfl⟩
  · have i1 : ¬ ((bytesOf P).size : Int) ≤ ((bytesOf R).size : Int) := by rw [s1, s2]; omega
    rw [pre_short P R h]
    clear s1 s2
    go_enter Tryz.func75, Tryz.ntmps75
    go_wp2
    go_ret
    exact ⟨rfl, rfl⟩
def aft (P R : List UInt8) : List UInt8 := if P.isPrefixOf R = true then R.drop P.length else R
set_option maxRecDepth 100000 in
set_option maxHeartbeats 1000000 in
theorem cutPre_any (R P : List UInt8) (W : World) :
    Calls Tryz.prog 65 #[.string (bytesOf R), .string (bytesOf P)] W fun e W' => e = .returned (.tuple #[.string (bytesOf (aft P R)), .bool (P.isPrefixOf R)]) ∧ W' = W := by
  have HP := hid (hasPrefix_any R P W)
  have s1 := bytesOf_size R
  have s2 := bytesOf_size P
  cases e : P.isPrefixOf R with
  | true =>
    have ea : aft P R = R.drop P.length := by unfold aft; rw [if_pos e]
    have hl : P.length ≤ R.length := by
      rw [List.isPrefixOf_iff_prefix] at e
      exact e.length_le
    rw [ea]
    rw [e] at HP
    have ex : (bytesOf R).extract (bytesOf P).size (bytesOf R).size = bytesOf (R.drop P.length) := by rw [ext_drop, bytesOf_list, s2]; rfl
    have i2 : ((bytesOf P).size : Int) ≤ ((bytesOf R).size : Int) := by rw [s1, s2]; omega
    clear s1 s2 e ea hl
    go_enter Tryz.func65, Tryz.ntmps65
    go_wp2_with fail
    refine HP.out.mono ?_
    rintro e w1 ⟨rfl, rfl⟩
    go_wp2
    refine bodyPost_ret (v := .tuple #[.string (bytesOf (R.drop P.length)), .bool true]) (by simp [results, Tryz.results65, go_sem]) rfl ⟨rfl, rfl⟩
  | false =>
    have ea : aft P R = R := by unfold aft; rw [if_neg (by rw [e]; decide)]
    rw [ea]
    rw [e] at HP
    clear s1 s2 e ea
    go_enter Tryz.func65, Tryz.ntmps65
    go_wp2_with fail
    refine HP.out.mono ?_
    rintro e w1 ⟨rfl, rfl⟩
    go_wp2
    refine bodyPost_ret (v := .tuple #[.string (bytesOf R), .bool false]) (by simp [results, Tryz.results65, go_sem]) rfl ⟨rfl, rfl⟩
set_option maxRecDepth 100000 in
set_option maxHeartbeats 1000000 in
theorem cutPrefix_any (R P : List UInt8) (W : World) :
    Calls Tryz.prog 50 #[.string (bytesOf R), .string (bytesOf P)] W fun e W' => e = .returned (.tuple #[.string (bytesOf (aft P R)), .bool (P.isPrefixOf R)]) ∧ W' = W := by
  have HP := hid (cutPre_any R P W)
  go_enter Tryz.func50, Tryz.ntmps50
  go_wp2_with fail
  refine HP.out.mono ?_
  rintro e w1 ⟨rfl, rfl⟩
  go_wp2
  refine bodyPost_ret (v := .tuple #[.string (bytesOf (aft P R)), .bool (P.isPrefixOf R)]) (by simp [results, Tryz.results50, go_sem]) rfl ⟨rfl, rfl⟩
set_option maxRecDepth 100000 in
set_option maxHeartbeats 1000000 in
theorem takes_any (rb : Nat) (R Wd : List UInt8) (W : World) (h2 : Wd.length ≤ 100) (hR : Rdr W rb R) :
    Calls Tryz.prog 29 #[.pointer (some ⟨rb, 0, none⟩), .string (bytesOf Wd)] W fun e W' => e = .returned (.bool (takesL Wd R).isSome) ∧ Rdr W' rb ((takesL Wd R).getD R) ∧ W.grownBy W' (some rb) := by
  have c1 := Blk.one hR
  have f1 := Blk.warm hR 0
  have HB := hid hR
  have e1 : (takesL Wd R).isSome = (Wd ++ [32]).isPrefixOf R := by unfold takesL; split <;> rename_i h <;> simp [h]
  have e2 : (takesL Wd R).getD R = aft (Wd ++ [32]) R := by unfold takesL aft; split <;> simp
  rw [e1, e2]
  have HP := hid (cutPrefix_any R (Wd ++ [32]) W)
  have ep : bytesOf Wd ++ ByteArray.mk #[32] = bytesOf (Wd ++ [32]) := by
    apply ByteArray.ext
    apply Array.ext'
    simp [bytesOf]
  have r1 : ¬ 9223372036854775807 < (bytesOf Wd).size + (ByteArray.mk #[32]).size := by rw [bytesOf_size]; show ¬ 9223372036854775807 < Wd.length + 1; omega
  clear hR e1 e2
  generalize aft (Wd ++ [32]) R = q at *
  generalize (Wd ++ [32]).isPrefixOf R = f at *
  go_enter Tryz.func29, Tryz.ntmps29
  go_wp2_with fail
  refine HP.out.mono ?_
  rintro e w1 ⟨rfl, rfl⟩
  go_wp2
  go_ret
  exact ⟨rfl, Blk.setAt (i := 0) HB.out _, grown_set (belowOnly (Below.refl _ _) _) _ _⟩
theorem clone_any (s : ByteArray) (w : World) (hn : s.size ≤ 281474976710656) :
    Calls Tryz.prog 69 #[.string s] w fun e w' => e = .returned (.string s) ∧ Below w.heap.size w w' := by
  have hc := fun v => Go.Proofs.Any.stringslite_Clone Tryz.cloneA s v hn
  change ∀ v : World, Calls Tryz.prog 79 #[.string s] v fun e w' => e = .returned (.string s) ∧ Below v.heap.size v w' at hc
  go_enter Tryz.func69, Tryz.ntmps69
  go_wp2_with fail
  refine (hc _).mono ?_
  rintro e w1 ⟨rfl, hb⟩
  go_wp2
  go_ret
  exact ⟨rfl, hb⟩
set_option maxRecDepth 100000 in
set_option maxHeartbeats 1000000 in
theorem text_any (u : TypeId) (pv : Value) (rb : Nat) (R : List UInt8) (W : World) (hL : R.length ≤ 1048576) (hR : Rdr W rb R) (hE : Err u pv W) :
    Calls Tryz.prog 55 #[.pointer (some ⟨rb, 0, none⟩)] W fun e W' => UpP u pv rb W (cutL 10 R).2.2 (cutL 10 R).1 (cutL 10 R).2.1 e W' := by
  have U := hid (upTo_any u pv rb R 10 W hL hR hE)
  have pl := cutL_len1 10 R
  clear hR hE
  generalize (cutL 10 R).1 = p at *
  generalize (cutL 10 R).2.1 = q at *
  generalize (cutL 10 R).2.2 = f at *
  go_enter Tryz.func55, Tryz.ntmps55
  go_wp2_with fail
  refine U.out.mono ?_
  rintro e w1 (⟨hf, rfl, R1, G1⟩ | ⟨hf, rfl, G1⟩)
  · have HF := hid hf
    clear hf
    go_wp2_with fail
    refine (clone_any (bytesOf p) w1 (by rw [bytesOf_size]; omega)).mono ?_
    rintro e w2 ⟨rfl, hb2⟩
    go_wp2
    go_ret
    exact Or.inl ⟨HF.out, rfl, R1.below hb2, grown_same G1 (belowOnly hb2 _)⟩
  · unfold gaveUp
    go_wp2
    exact ⟨rfl, Or.inr ⟨hf, rfl, G1⟩⟩
def jn (ws : List (List UInt8)) : List UInt8 := (ws.map fun w => w ++ [32]).flatten
theorem jn_cons (w : List UInt8) (ws : List (List UInt8)) : jn (w :: ws) = w ++ 32 :: jn ws := by simp [jn]
theorem jn_cut {w : List UInt8} (h : no 32 w) (ws : List (List UInt8)) : cutL 32 (jn (w :: ws)) = (w, jn ws, true) := by rw [jn_cons]; exact cutL_at h _
theorem jn_nil : cutL 32 (jn []) = ([], [], false) := rfl
theorem jn_sep (w : List UInt8) (ws : List (List UInt8)) : jn (w :: ws) = w ++ sep ws ++ [32] := by
  induction ws generalizing w with
  | nil => simp [jn, sep_nil]
  | cons x r ih => rw [jn_cons, ih x, sep_cons]; simp
theorem jn_words (P : List UInt8) : P ++ [32] = jn (wordsL P) := by
  obtain ⟨w, ws, h1, h2⟩ := sep_words P
  rw [h1, jn_sep, ← h2]
theorem jn_len {ws : List (List UInt8)} : ws.length ≤ (jn ws).length := by
  induction ws with
  | nil => simp
  | cons w ws ih => rw [jn_cons]; simp; omega
theorem jn_drop (ws : List (List UInt8)) (k : Nat) : (jn (ws.drop k)).length ≤ (jn ws).length := by
  induction ws generalizing k with
  | nil => simp
  | cons w ws ih =>
    cases k with
    | zero => simp
    | succ k => rw [List.drop_succ_cons, jn_cons]; have := ih k; simp; omega
def NumsA (u : TypeId) (pv : Value) (rb : Nat) (W : World) (ws : List (List UInt8)) (e : Ending) (W' : World) : Prop := (ws.all okD = true ∧ ∃ a c, e = .returned (.slice a ws.length c) ∧ OwnN W' W.heap.size (.slice a ws.length c) (ws.map numM) ∧ W.grownBy W' (some rb)) ∨ (ws.all okD = false ∧ e = gaveUp u pv ∧ W.grownBy W' (some rb))
set_option maxRecDepth 100000 in
set_option maxHeartbeats 4000000 in
theorem numbers_any (u : TypeId) (pv : Value) (rb : Nat) (ws : List (List UInt8)) (W : World) (hL : (jn ws).length ≤ 1048576) (hn : ∀ w ∈ ws, no 32 w) (hR : Rdr W rb (jn ws)) (hE : Err u pv W) (h0 : rb ≠ 0) :
    Calls Tryz.prog 54 #[.pointer (some ⟨rb, 0, none⟩)] W fun e W' => NumsA u pv rb W ws e W' := by
  have HE := hid hE
  have HN := hid hn
  have HR := hid hR
  have rlt := Blk.lt hR
  clear hE hn hR
  go_enter Tryz.func54, Tryz.ntmps54
  go_wp2
  go_loopw [3] (fun v wr => ∃ (k : Nat) (a : Option Addr) (c : Nat), k ≤ ws.length ∧ v = .slice a k c ∧ OwnN wr W.heap.size v ((ws.take k).map numM) ∧ Hid ((ws.take k).all okD = true) ∧ Rdr wr rb (jn (ws.drop k)) ∧ W.grownBy wr (some rb)) (fun v _ => ws.length - lenN v)
  case atStart => exact ⟨0, none, 0, Nat.zero_le _, rfl, by simpa using OwnN.nil W W.heap.size, hid (by simp), by simpa using HR.out, belowOnly (Below.refl _ _) _⟩
  case round =>
    obtain ⟨k, a, c, hk, rfl, hO, HA, hR, hG⟩ := hrel
    have OO := hid hO
    have RR := hid hR
    have GG := hid hG
    have c1 := Blk.one hR
    have dl := jn_drop ws k
    clear hO hR hG HR
    by_cases hlt : k < ws.length
    · obtain ⟨x, hx⟩ : ∃ x, ws[k]? = some x := ⟨_, List.getElem?_eq_getElem hlt⟩
      have ed : ws.drop k = x :: ws.drop (k + 1) := by
        rw [List.drop_eq_getElem_cons hlt]
        congr 1
        rw [List.getElem?_eq_getElem hlt] at hx
        exact Option.some.inj hx
      have nx : no 32 x := HN.out x (List.mem_of_getElem? hx)
      have NB := hid (number_any u pv rb (jn (ws.drop k)) wr (by omega) RR.out (HE.out.grown GG.out h0) h0)
      rw [ed, jn_cut nx] at NB
      have e0 : (bytesOf (jn (ws.drop k))).toList.isEmpty = false := by
        rw [empty_size, bytesOf_size, ed, jn_cons]
        simp
      have ET : Hid ((ws.take k).map numM ++ [numM x] = (ws.take (k + 1)).map numM) := hid (by rw [List.take_add_one, hx]; simp)
      have EL : Hid (((ws.take k).map numM).length = k) := hid (by simp; omega)
      have EA : Hid (okD x = true → (ws.take (k + 1)).all okD = true) := hid (fun h => by rw [List.take_add_one, hx, List.all_append, HA.out]; simp [h])
      have EB : Hid (okD x = false → ws.all okD = false) := hid (fun h => by
        rw [List.all_eq_false]
        exact ⟨x, List.mem_of_getElem? hx, by rw [h]; decide⟩)
      have EM : Hid (okD x = true → numM x = numL x) := hid (fun h => by unfold numM; rw [if_pos h])
      have lm : ((ws.take k).map numM).length ≤ 2000000 := by rw [EL.out]; have := @jn_len ws; omega
      generalize (ws.take k).map numM = l at *
      clear ed nx hx HA
      generalize jn (ws.drop k) = jk at *
      go_wp2_with fail
      refine NB.out.mono ?_
      rintro e w1 (⟨_, ho, rfl, R1, G1⟩ | ⟨ho, rfl, G1⟩)
      · have ex := EM.out ho
        rw [← ex]
        have OK1 := hid (EA.out ho)
        have o1 := hid (World.ownsRow.kept OO.out G1 (Or.inr (fun e => by
          have := (World.ownsRow.lt OO.out rb e).1
          omega)))
        generalize numM x = y at *
        have O1 := hid (OwnN.alloc o1.out (.cells #[.int .i64 y] 2))
        have C1 := hid (one_num (w := w1) y)
        have b1 := (Below.refl _ w1).alloc (Nat.le_refl _) (.cells #[.int .i64 y] 2)
        have G2 := hid (grown_same GG.out (grown_same G1 (belowOnly b1 _)))
        have R2 := hid (R1.below b1)
        have sz := G2.out.size
        clear NB OO RR R1 G1 b1 o1 EM EA EB ho ex c1
        go_wp2_with (at_builtin; refine wpList_append_num _ rfl _ _ rfl W.heap.size _ l rfl O1.out _ 1 y rfl C1.out lm sz ?_; intro g4 c4 w4 O4 G4; have OX := hid O4; have GX := hid G4; clear O4 G4)
        have nb : ∀ j, (Value.slice a k c).ownBlock = some j → W.heap.size ≤ j := own_low O1.out
        have OF := OX.out
        rw [ET.out, EL.out] at OF
        refine ⟨⟨k + 1, some ⟨g4, 0, none⟩, c4, by omega, by rw [EL.out], by rw [EL.out]; exact OF, OK1, Blk.grown R2.out GX.out (fun e => ?_), ?_⟩, ?_⟩
        · have := nb rb (by first | exact e | exact e.symm)
          omega
        · refine ⟨GX.out.os.trans G2.out.os, GX.out.tape.trans G2.out.tape, GX.out.output.trans G2.out.output, Nat.le_trans G2.out.size GX.out.size, fun j hj hne => ?_⟩
          exact (GX.out.block j (Nat.lt_of_lt_of_le hj sz) (fun e => by have := nb j (by first | exact e | exact e.symm); omega)).trans (G2.out.block j hj hne)
        · show ws.length - (l.length + 1) < ws.length - k
          rw [EL.out]
          omega
      · have eb := EB.out (by simpa using ho)
        unfold gaveUp
        go_wp2
        exact ⟨rfl, Or.inr ⟨eb, rfl, grown_same GG.out G1⟩⟩
    · have ek : ws.length = k := by omega
      have ed : ws.drop k = [] := List.drop_eq_nil_of_le (by omega)
      have et : ws.take k = ws := List.take_of_length_le (by omega)
      rw [ed] at c1
      have e0 : (bytesOf (jn [])).toList.isEmpty = true := by rw [emptyR]; rfl
      rw [et] at OO HA
      go_wp2
      go_ret
      refine Or.inl ⟨HA.out, a, c, by rw [ek]; rfl, by rw [ek]; exact OO.out, GG.out⟩
end Go.Proofs.YtjceaajnemgheaaGreatDoor
namespace Go.Proofs.YtjceaajnemgheaaGreatDoor
open Go Go.RowKit

theorem ap (l : List Value) (ds : List Deferred) (d : Nat) (v : Value) : Act.put ⟨l.toArray, ds⟩ (some d) v = ⟨(l.set d v).toArray, ds⟩ := by
  simp only [Act.put, List.setIfInBounds_toArray]
def tkOk (md : Region.Mode) (ops : Array Oper) (m : Nat) (listed : Array Bool) (i : Nat) : Bool :=
  Region.noSelect ops && Region.free md ops listed i && (Region.ready md ops listed).contains i && (waits md ops m i || decide (ops.size ≤ m)) && !(i == m) && !listed.getD m false
section
variable {P : Program} {md : Region.Mode} {ops : Array Oper} {Q : Exit → Act → World → Prop} {S : World → Prop} {m : Nat}
theorem tk (i d : Nat) {oi : Oper} (v : Value) {fuel : Nat} {listed : Array Bool} {a : Act} {w : World} (hi : ops[i]? = some oi) (hd : oi.dst = some d) (hk : tkOk md ops m listed i = true)
    (hw : Region.wanted oi (yielded ops a.tmps) = true) (hy : ∀ W, S W → (execOp a.eval oi).run P W = .ok (.value v) W) (hS : S w)
    (h : wpAnyG P md ops Q S m fuel (listed.setIfInBounds i true) (a.put (some d) v) w) (hQ : ∀ c a w, Q (.panic c) (a.put (some d) v) w → Q (.panic c) a w := by exact fun _ _ _ => id) : wpAnyG P md ops Q S m (fuel + 1) listed a w := by
  unfold tkOk at hk
  simp only [Bool.and_eq_true, Bool.not_eq_true'] at hk
  obtain ⟨⟨⟨⟨⟨h1, h2⟩, h3⟩, h4⟩, h5⟩, h6⟩ := hk
  exact wpAnyG_takeD v hi hd h1 h2 h3 h4 h5 h6 hQ (Or.inl ⟨hw, hy⟩) hS h
theorem sk (i d : Nat) {oi : Oper} {fuel : Nat} {listed : Array Bool} {a : Act} {w : World} (hi : ops[i]? = some oi) (hd : oi.dst = some d) (hk : tkOk md ops m listed i = true)
    (hun : Region.wanted oi (yielded ops a.tmps) = false) (hS : S w)
    (h : wpAnyG P md ops Q S m fuel (listed.setIfInBounds i true) (a.put (some d) undef) w) (hQ : ∀ c a w, Q (.panic c) (a.put (some d) undef) w → Q (.panic c) a w := by exact fun _ _ _ => id) : wpAnyG P md ops Q S m (fuel + 1) listed a w := by
  unfold tkOk at hk
  simp only [Bool.and_eq_true, Bool.not_eq_true'] at hk
  obtain ⟨⟨⟨⟨⟨h1, h2⟩, h3⟩, h4⟩, h5⟩, h6⟩ := hk
  exact wpAnyG_skip hi hd h1 h2 h3 h4 h5 h6 hQ hun hS h
theorem tq (i d : Nat) {oi : Oper} (v : Value) {fuel : Nat} {listed : Array Bool} {a : Act} {w : World} (hS : S w)
    (h : wpAnyG P md ops Q S m fuel (listed.setIfInBounds i true) (a.put (some d) v) w)
    (hi : ops[i]? = some oi := by rfl) (hd : oi.dst = some d := by rfl) (hk : tkOk md ops m listed i = true := by kernel_rfl)
    (hw : Region.wanted oi (yielded ops a.tmps) = true := by rfl) (hy : ∀ W, S W → (execOp a.eval oi).run P W = .ok (.value v) W := by intro W h; go_simp)
    (hQ : ∀ c a w, Q (.panic c) (a.put (some d) v) w → Q (.panic c) a w := by exact fun _ _ _ => id) : wpAnyG P md ops Q S m (fuel + 1) listed a w :=
  tk i d v hi hd hk hw hy hS h hQ
def skAll (md : Region.Mode) (ops : Array Oper) (m : Nat) : List (Nat × Nat) → Array Bool → Array Value → Bool
  | [], _, _ => true
  | (i, d) :: l, listed, t => (match ops[i]? with
    | some oi => tkOk md ops m listed i && decide (oi.dst = some d) && !Region.wanted oi (yielded ops t)
    | none => false) && skAll md ops m l (listed.setIfInBounds i true) (t.setIfInBounds d undef)
def listL : List (Nat × Nat) → Array Bool → Array Bool
  | [], s => s
  | (i, _) :: l, s => listL l (s.setIfInBounds i true)
def putsU : List (Nat × Nat) → Act → Act
  | [], a => a
  | (_, d) :: l, a => putsU l (a.put (some d) undef)
theorem sks (n : Nat) (l : List (Nat × Nat)) {fuel : Nat} {listed : Array Bool} {a : Act} {w : World} (hn : l.length = n) (hk : skAll md ops m l listed a.tmps = true) (hS : S w)
    (h : wpAnyG P md ops Q S m fuel (listL l listed) (putsU l a) w) (hQ : ∀ c t t' ds w, Q (.panic c) ⟨t', ds⟩ w → Q (.panic c) ⟨t, ds⟩ w := by exact fun _ _ _ _ _ => id) : wpAnyG P md ops Q S m (fuel + n) listed a w := by
  subst hn
  induction l generalizing listed a with
  | nil => exact h
  | cons x l ih =>
    obtain ⟨i, d⟩ := x
    simp only [skAll, Bool.and_eq_true] at hk
    obtain ⟨h1, h2⟩ := hk
    cases e : ops[i]? with
    | none => rw [e] at h1; cases h1
    | some oi =>
      rw [e] at h1
      simp only [Bool.and_eq_true, decide_eq_true_eq, Bool.not_eq_true'] at h1
      refine sk i d e h1.1.2 h1.1.1 h1.2 hS (ih ?_ h) (fun c a w => hQ c _ _ _ w)
      exact h2
end
end Go.Proofs.YtjceaajnemgheaaGreatDoor
