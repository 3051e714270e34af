/- Decimals and texts of labels, as the model writes them. -/
import Derived.Test.YtjceaajnemgheaaGreatDoorZ5
import Derived.Test.YtjceaajnemgheaaGreatDoorZ21
import Derived.Laws.IdiomStrings
import Derived.Test.YtjceaajnemgheaaGreatDoorZ2
import Derived.Test.YtjceaajnemgheaaGreatDoorZ6
import Derived.Test.YtjceaajnemgheaaGreatDoorZ16
import Derived.Test.YtjceaajnemgheaaGreatDoorZ12
import Derived.Maps.OwnOps
namespace Go.Proofs.YtjceaajnemgheaaGreatDoor
open Go.RowKit Go.Deep

theorem bytes_app (a l : List UInt8) : ((⟨a.toArray⟩ : ByteArray) ++ (⟨l.toArray⟩ : ByteArray)) = ⟨(a ++ l).toArray⟩ := by
  apply ByteArray.ext
  apply Array.ext'
  simp
theorem decL_len (n : Nat) : (decL n).length ≤ n + 1 := by
  induction n using Nat.strongRecOn with
  | _ n ih =>
    by_cases h : n < 10
    · rw [decL_small h]; simp
    · rw [decL_big h, List.length_append]
      have := ih (n / 10) (by omega)
      simp
      omega

set_option maxRecDepth 100000 in
set_option maxHeartbeats 2000000 in
theorem l1Dec_any (n : Nat) (w : World) (hn : n ≤ 10000000000) :
    Calls Tryz.prog 25 #[.int .i64 n] w fun e w' => e = .returned (.string ⟨(decL n).toArray⟩) ∧ Below w.heap.size w w' := by
  have hlen := decL_len n
  go_enter Tryz.func25, Tryz.ntmps25
  go_wp2
  go_loopw [0, 3] (fun x s wr => ∃ (k : Nat) (l : List UInt8), k ≤ n ∧ x = .int .i64 k ∧ s = .string ⟨l.toArray⟩ ∧ decL n = decL k ++ l ∧ Below w.heap.size w wr) (fun x _ _ => (intOf x).toNat)
  case atStart => exact ⟨n, [], Nat.le_refl _, rfl, rfl, by simp, Below.refl _ _⟩
  case round =>
    obtain ⟨k, l, hk, rfl, rfl, hd, hB⟩ := hrel
    have hl : l.length ≤ 10000000001 := by
      have := congrArg List.length hd
      rw [List.length_append] at this
      omega
    have HD : Hid (decL n = decL k ++ l) := hd
    clear hd
    by_cases h10 : k < 10
    · have h10' : ¬ (10 : Int) ≤ (k : Int) := by omega
      obtain ⟨b, hb⟩ : ∃ b, b = UInt8.ofNat (48 + (k : Int)).toNat := ⟨_, rfl⟩
      have ob := fun (w : World) => one_byte w (48 + (k : Int)) (by omega) (by omega)
      rw [← hb] at ob
      have HB : Hid (b = UInt8.ofNat (48 + k)) := hb
      clear hb
      go_wp2
      go_ret
      refine ⟨?_, hB.alloc hB.size _⟩
      rw [bytes_cons, HD.out, decL_small h10, ← HB.out]
      rfl
    · have h10' : (10 : Int) ≤ (k : Int) := by omega
      obtain ⟨b, hb⟩ : ∃ b, b = UInt8.ofNat (48 + (k : Int) % 10).toNat := ⟨_, rfl⟩
      have ob := fun (w : World) => one_byte w (48 + (k : Int) % 10) (by omega) (by omega)
      rw [← hb] at ob
      have HB : Hid (b = UInt8.ofNat (48 + k % 10)) := hb
      clear hb
      go_wp2
      go_roundw
      case rel =>
        refine ⟨k / 10, b :: l, by omega, by go_num, by rw [bytes_cons], ?_, hB.alloc hB.size _⟩
        rw [HD.out, decL_big h10, ← HB.out, List.append_assoc]
        rfl
      case measure => simp [intOf]; omega
end Go.Proofs.YtjceaajnemgheaaGreatDoor
namespace Go.Proofs.YtjceaajnemgheaaGreatDoor
open Go.RowKit Go.Deep

theorem l1DecI_any (x : Int) (w : World) (h0 : 0 ≤ x) (h1 : x ≤ 10000000000) :
    Calls Tryz.prog 25 #[.int .i64 x] w fun e w' => e = .returned (.string ⟨(decL x.toNat).toArray⟩) ∧ Below w.heap.size w w' := by
  obtain ⟨n, rfl⟩ := Int.eq_ofNat_of_zero_le h0
  exact l1Dec_any n w (by omega)
def catsTo (f g : Nat → Int) (k : Nat) : List (Int × Int) := (List.range k).map fun i => (f i, g i)
theorem catsTo_succ (f g : Nat → Int) (k : Nat) : catsTo f g (k + 1) = catsTo f g k ++ [(f k, g k)] := by simp [catsTo, List.range_succ]
theorem txt_len (base : Int) (f g : Nat → Int) (k : Nat) (hb : base.toNat ≤ 10000000000) (hc : ∀ i, i < k → (f i).toNat ≤ 10000000000 ∧ (g i).toNat ≤ 10000000000) : (txt base (catsTo f g k)).length ≤ 10000000001 + k * 20000000010 := by
  induction k with
  | zero => simp [txt, catsTo]; have := decL_len base.toNat; omega
  | succ k ih =>
    rw [catsTo_succ, txt_snoc, List.length_append]
    have := ih (fun i hi => hc i (by omega))
    have h1 := decL_len (f k).toNat
    have h2 := decL_len (g k).toNat
    have h3 := hc k (by omega)
    simp only [catText, List.length_cons, List.length_append]
    omega

set_option maxRecDepth 100000 in
set_option maxHeartbeats 4000000 in
theorem l1Text_any (base : Int) (a : Option Addr) (n cap : Nat) (f g : Nat → Int) (w : World) (hn : n ≤ 12) (hc : CatsAt w a n f g) (hb : 0 ≤ base ∧ base ≤ 10000000000) (hf : ∀ i, i < n → 0 ≤ f i ∧ f i ≤ 10000000000) (hg : ∀ i, i < n → 0 ≤ g i ∧ g i ≤ 10000000000) :
    Calls Tryz.prog 26 #[.agg #[.int .i64 base, .slice a n cap]] w fun e w' => e = .returned (.string ⟨(txt base (catsTo f g n)).toArray⟩) ∧ Below w.heap.size w w' := by
  have L0 := (Below.refl _ w).alloc (Nat.le_refl _) (.cells #[.int .i64 base, .slice a n cap] 39)
  have A0 := Blk.new w (.cells #[.int .i64 base, .slice a n cap] 39)
  obtain ⟨x1, x2⟩ := A0.two
  go_enter Tryz.func26, Tryz.ntmps26
  go_wp2_with fail
  refine (l1DecI_any base _ hb.1 hb.2).mono ?_
  rintro e w1 ⟨rfl, hb1⟩
  have A1 := A0.below hb1
  have L1 : Below w.heap.size w w1 := L0.trans (hb1.mono L0.size)
  have hc1 := hc.below L1
  clear x1 x2 A0 L0 hb1
  go_wp2_with fail
  go_loopw [3, 4] (fun s i wr => ∃ k : Nat, k ≤ n ∧ i = .int .i64 k ∧ s = .string ⟨(txt base (catsTo f g k)).toArray⟩ ∧ Below w1.heap.size w1 wr) (fun _ i _ => n - (intOf i).toNat)
  case atStart => exact ⟨0, Nat.zero_le _, rfl, by simp [txt, catsTo], Below.refl _ _⟩
  case round =>
    obtain ⟨k, hk, rfl, rfl, hB⟩ := hrel
    have lk := txt_len base f g k (by omega) (fun i hi => by have := hf i (by omega); have := hg i (by omega); omega)
    have Ar := A1.below hB
    obtain ⟨x1, x2⟩ := Ar.two
    by_cases hlt : k < n
    · have hki : (k : Int) < (n : Int) := by omega
      obtain ⟨b, off, rfl, hbl, hcc⟩ := hc1 (by omega)
      obtain ⟨c1, c2⟩ := hcc k hlt
      have g1 : wr.cell? ⟨b, off + k * 2, none⟩ = some (.int .i64 (f k)) := (hB.cell (p := ⟨b, _, none⟩) hbl).trans c1
      have g2 : wr.cell? ⟨b, off + k * 2 + 1, none⟩ = some (.int .i64 (g k)) := (hB.cell (p := ⟨b, _, none⟩) hbl).trans c2
      have hf0 := hf k hlt
      have hg0 := hg k hlt
      have hD1 := decL_len (f k).toNat
      have hD2 := decL_len (g k).toNat
      have P1 : Hid (∀ v : World, Calls Tryz.prog 25 #[.int .i64 (f k)] v fun e w' => e = .returned (.string ⟨(decL (f k).toNat).toArray⟩) ∧ Below v.heap.size v w') := fun v => l1DecI_any (f k) v hf0.1 hf0.2
      have P2 : Hid (∀ v : World, Calls Tryz.prog 25 #[.int .i64 (g k)] v fun e w' => e = .returned (.string ⟨(decL (g k).toNat).toArray⟩) ∧ Below v.heap.size v w') := fun v => l1DecI_any (g k) v hg0.1 hg0.2
      have HT : Hid (txt base (catsTo f g (k + 1)) = txt base (catsTo f g k) ++ 44 :: (decL (f k).toNat ++ 58 :: decL (g k).toNat)) := by
        show _ = _
        rw [catsTo_succ, txt_snoc]; rfl
      have Ad : Blk wr.drew w.heap.size (.cells #[.int .i64 base, .slice (some ⟨b, off, none⟩) n cap] 39) := Ar
      have hbd : b < wr.drew.heap.size := Nat.lt_of_lt_of_le hbl hB.size
      have gd1 : wr.drew.cell? ⟨b, off + k * 2, none⟩ = some (.int .i64 (f k)) := g1
      have gd2 : wr.drew.cell? ⟨b, off + k * 2 + 1, none⟩ = some (.int .i64 (g k)) := g2
      clear hc hc1 hcc hf hg c1 c2
      generalize hT : txt base (catsTo f g k) = T at *
      generalize hE1 : decL (f k).toNat = D1 at *
      generalize hE2 : decL (g k).toNat = D2 at *
      generalize f k = fk at *
      generalize g k = gk at *
      have hD1' : D1.length ≤ 10000000001 := by omega
      have hD2' : D2.length ≤ 10000000001 := by omega
      have lk' : T.length ≤ 1000000000000 := by omega
      have r1 : ¬ 9223372036854775807 < T.length + 1 := by omega
      have r2 : ¬ 9223372036854775807 < T.length + 1 + D1.length := by omega
      have r3 : ¬ 9223372036854775807 < T.length + 1 + D1.length + 1 := by omega
      have r4 : ¬ 9223372036854775807 < T.length + 1 + D1.length + 1 + D2.length := by omega
      clear hT hE1 hE2 hD1 hD2 lk hf0 hg0
      go_wp2_with fail
      go_region_held3 (fun w' => w'.cell? ⟨w.heap.size, 0, none⟩ = some (.int .i64 base) ∧ w'.cell? ⟨w.heap.size, 1, none⟩ = some (.slice (some ⟨b, off, none⟩) n cap) ∧ w'.cell? ⟨b, off + k * 2, none⟩ = some (.int .i64 fk) ∧ w'.cell? ⟨b, off + k * 2 + 1, none⟩ = some (.int .i64 gk)) (go_keep)
        (first
          | (go_at_call 25; have hq := hb7; refine (P2.out _).mono ?_; rintro e w8 ⟨rfl, hb8⟩; obtain ⟨t1, t2⟩ := ((Ad.below hb7).below hb8).two; have t3 := (hb8.cell (p := ⟨b, off + k * 2, none⟩) (Nat.lt_of_lt_of_le hbd hb7.size)).trans y3; have t4 := (hb8.cell (p := ⟨b, off + k * 2 + 1, none⟩) (Nat.lt_of_lt_of_le hbd hb7.size)).trans y4)
          | (go_at_call 25; refine (P1.out _).mono ?_; rintro e w7 ⟨rfl, hb7⟩; obtain ⟨y1, y2⟩ := (Ad.below hb7).two; have y3 := (hb7.cell (p := ⟨b, off + k * 2, none⟩) hbd).trans gd1; have y4 := (hb7.cell (p := ⟨b, off + k * 2 + 1, none⟩) hbd).trans gd2))
      go_wp2
      go_roundw
      case rel =>
        refine ⟨k + 1, by omega, by go_num, ?_, (hB.drew.trans (hb7.mono hB.size)).trans (hb8.mono (Nat.le_trans hB.size hb7.size))⟩
        have ea : (⟨#[44]⟩ : ByteArray) = ⟨[44].toArray⟩ := rfl
        have eb : (⟨#[58]⟩ : ByteArray) = ⟨[58].toArray⟩ := rfl
        rw [ea, eb, bytes_app, bytes_app, bytes_app, bytes_app, HT.out]
        simp
      case measure => simp [intOf]; omega
    · have hki : ¬ (k : Int) < (n : Int) := by omega
      have ek : k = n := by omega
      subst ek
      go_wp2
      go_ret
      exact ⟨rfl, L1.trans (hB.mono L1.size)⟩
end Go.Proofs.YtjceaajnemgheaaGreatDoor
namespace Go.Proofs.YtjceaajnemgheaaGreatDoor
open Go.RowKit Go.Deep Go.Maps

theorem grown_trans {a b c : World} {P : Nat} {row : Option Nat} (h : a.grownBy b (some P)) (k : b.grownBy c row) (hr : ∀ j, row = some j → a.heap.size ≤ j) : a.grownBy c (some P) :=
  ⟨k.os.trans h.os, k.tape.trans h.tape, k.output.trans h.output, Nat.le_trans h.size k.size, fun j hj hne => (k.block j (Nat.lt_of_lt_of_le hj h.size) (fun e => by have := hr j e.symm; omega)).trans (h.block j hj hne)⟩
theorem Blk.set1 {W : World} {P t : Nat} {x y : Value} (h : Blk W P (.cells #[x, y] t)) (v : Value) : Blk (W.setCell ⟨P, 1, none⟩ v) P (.cells #[x, v] t) := by
  unfold Blk at *
  simp [World.setCell, Array.getElem?_modify, h]
theorem Blk.frozen2 {W : World} {P t : Nat} {x y : Value} (h : Blk W P (.cells #[x, y] t)) (i : Nat) : W.frozen? ⟨P, i, none⟩ = false := by
  unfold Blk at h
  simp [World.frozen?, h]
theorem OwnCats.alloc {w : World} {B n : Nat} {v : Value} {f g : Nat → Int} (h : OwnCats w B v n f g) (o : Obj) : OwnCats (w.alloc o) B v n f g := World.ownsRow.alloc h o
theorem one_cat (w : World) (x y : Int) : CatsAt (w.alloc (.cells #[.int .i64 x, .int .i64 y] 58)) (some ⟨w.heap.size, 0, none⟩) 1 (fun _ => x) (fun _ => y) := fun _ => by
  obtain ⟨h1, h2⟩ := Blk.two (Blk.new w (.cells #[.int .i64 x, .int .i64 y] 58))
  refine ⟨w.heap.size, 0, rfl, by simp, fun i hi => ?_⟩
  obtain rfl : i = 0 := by omega
  exact ⟨h1, h2⟩
def fstAt (l : List (Int × Int)) (i : Nat) : Int := (l.getD i (0, 0)).1
def sndAt (l : List (Int × Int)) (i : Nat) : Int := (l.getD i (0, 0)).2
theorem fstAt_snoc_lt {l : List (Int × Int)} {p : Int × Int} {i : Nat} (h : i < l.length) : fstAt (l ++ [p]) i = fstAt l i := by
  simp [fstAt, List.getElem?_append_left h]
theorem sndAt_snoc_lt {l : List (Int × Int)} {p : Int × Int} {i : Nat} (h : i < l.length) : sndAt (l ++ [p]) i = sndAt l i := by
  simp [sndAt, List.getElem?_append_left h]
theorem fstAt_snoc_eq (l : List (Int × Int)) (p : Int × Int) : fstAt (l ++ [p]) l.length = p.1 := by simp [fstAt]
theorem sndAt_snoc_eq (l : List (Int × Int)) (p : Int × Int) : sndAt (l ++ [p]) l.length = p.2 := by simp [sndAt]
theorem catCells_congr {f g f' g' : Nat → Int} {n : Nat} (hf : ∀ i, i < n → f i = f' i) (hg : ∀ i, i < n → g i = g' i) : catCells f g n = catCells f' g' n := by
  unfold catCells
  apply List.map_congr_left
  intro j hj
  have hj' : j < n * 2 := List.mem_range.1 hj
  have : j / 2 < n := by omega
  unfold pairCell
  rw [hf _ this, hg _ this]
theorem OwnCats.congr {w : World} {B n : Nat} {v : Value} {f g f' g' : Nat → Int} (h : OwnCats w B v n f g) (hf : ∀ i, i < n → f i = f' i) (hg : ∀ i, i < n → g i = g' i) : OwnCats w B v n f' g' := by
  unfold OwnCats at *
  rw [← catCells_congr hf hg]; exact h
def OwnList (w : World) (B : Nat) (v : Value) (l : List (Int × Int)) : Prop := OwnCats w B v l.length (fstAt l) (sndAt l)
theorem OwnList.snoc {w : World} {B : Nat} {v : Value} {l : List (Int × Int)} {x y : Int} (h : OwnCats w B v (l.length + 1) (glue l.length (fstAt l) (fun _ => x)) (glue l.length (sndAt l) (fun _ => y))) : OwnList w B v (l ++ [(x, y)]) := by
  unfold OwnList
  rw [List.length_append]
  refine h.congr (fun i hi => ?_) (fun i hi => ?_)
  · by_cases e : i < l.length
    · simp only [glue, e, if_true]; rw [fstAt_snoc_lt e]
    · obtain rfl : i = l.length := by have hi' : i < l.length + 1 := hi; omega
      rw [fstAt_snoc_eq]; simp [glue]
  · by_cases e : i < l.length
    · simp only [glue, e, if_true]; rw [sndAt_snoc_lt e]
    · obtain rfl : i = l.length := by have hi' : i < l.length + 1 := hi; omega
      rw [sndAt_snoc_eq]; simp [glue]
theorem OwnList.below {w w' : World} {B : Nat} {v : Value} {l : List (Int × Int)} (h : OwnList w B v l) (hb : Below w.heap.size w w') : OwnList w' B v l := by
  refine ⟨h.1, ?_⟩
  rcases h.2 with hn | ⟨g, cap, cur, hv, hbg, hg, rest⟩
  · exact .inl hn
  · exact .inr ⟨g, cap, cur, hv, hbg, (hb.block g (Array.getElem?_eq_some_iff.1 hg).1).trans hg, rest⟩
theorem OwnList.set {w : World} {B : Nat} {v : Value} {l : List (Int × Int)} (h : OwnList w B v l) {P : Nat} (hP : P < B) (i : Nat) (x : Value) : OwnList (w.setCell ⟨P, i, none⟩ x) B v l :=
  World.ownsRow.kept h (grown_set (grown_refl w P) i x) (Or.inr (fun e => by have := (World.ownsRow.lt h _ e).1; omega))
theorem OwnList.low {w : World} {B B' : Nat} {v : Value} {l : List (Int × Int)} (h : OwnList w B v l) (hB : B' ≤ B) : OwnList w B' v l := by
  refine ⟨h.1, ?_⟩
  rcases h.2 with hn | ⟨g, cap, cur, hv, hb, rest⟩
  · exact .inl hn
  · exact .inr ⟨g, cap, cur, hv, by omega, rest⟩
theorem ownsRow_base_a {w : World} {B B' e size n : Nat} {v : Value} {cs : List Value} (h : w.ownsRow B e size v n cs) (hB : B' ≤ B) : w.ownsRow B' e size v n cs := by
  refine ⟨h.1, ?_⟩
  rcases h.2 with hn | ⟨g, cap, cur, hv, hbg, rest⟩
  · exact .inl hn
  · exact .inr ⟨g, cap, cur, hv, Nat.le_trans hB hbg, rest⟩
theorem grown_below {a b c : World} {P : Nat} (h : a.grownBy b (some P)) (k : Below b.heap.size b c) : a.grownBy c (some P) :=
  ⟨k.os.trans h.os, k.tape.trans h.tape, k.output.trans h.output, Nat.le_trans h.size k.size, fun j hj hne => (k.block j (Nat.lt_of_lt_of_le hj h.size)).trans (h.block j hj hne)⟩
theorem Blk.set0 {W : World} {P t : Nat} {x y : Value} (h : Blk W P (.cells #[x, y] t)) (v : Value) : Blk (W.setCell ⟨P, 0, none⟩ v) P (.cells #[v, y] t) := by
  unfold Blk at *
  simp [World.setCell, Array.getElem?_modify, h]
end Go.Proofs.YtjceaajnemgheaaGreatDoor
namespace Go.Proofs.YtjceaajnemgheaaGreatDoor
open Go.RowKit Go.Deep Go.Maps

end Go.Proofs.YtjceaajnemgheaaGreatDoor
namespace Go.Proofs.YtjceaajnemgheaaGreatDoor
open Go.RowKit Go.Deep Go.Maps
def fin (b : Int) : Option (List (Int × Int)) → Int × List (Int × Int) × Bool
  | some cats => if labOk b cats.length (fstAt cats) (sndAt cats) = true then (b, cats, true) else (0, [], false)
  | none => (0, [], false)
def readL (L : List UInt8) : Int × List (Int × Int) × Bool :=
  if okD (cutL 44 L).1 = true then fin (numL (cutL 44 L).1) (gather 12 (cutL 44 L).2.1 (cutL 44 L).2.2 []) else (0, [], false)

def RPost (r : Int × List (Int × Int) × Bool) (w : World) (e : Ending) (w' : World) : Prop :=
  ∃ a k, e = .returned (.tuple #[.agg #[.int .i64 r.1, .slice a r.2.1.length k], .bool r.2.2]) ∧ OwnList w' w.heap.size (.slice a r.2.1.length k) r.2.1 ∧ Below w.heap.size w w'

theorem OwnList.nil (w : World) (B : Nat) : OwnList w B (.slice none 0 0) [] := OwnCats.nil _ _ _ _

theorem RPost.no {r : Int × List (Int × Int) × Bool} {w w' : World} (hr : r = (0, [], false)) (hb : Below w.heap.size w w') : RPost r w (.returned (.tuple #[.agg #[.int .i64 0, .slice none 0 0], .bool false])) w' := by
  subst hr
  exact ⟨none, 0, rfl, OwnList.nil _ _, hb⟩
theorem RPost.yes {r : Int × List (Int × Int) × Bool} {b : Int} {l : List (Int × Int)} {a : Option Addr} {k : Nat} {w w' : World} (hr : r = (b, l, true)) (ho : OwnList w' w.heap.size (.slice a l.length k) l) (hb : Below w.heap.size w w') : RPost r w (.returned (.tuple #[.agg #[.int .i64 b, .slice a l.length k], .bool true])) w' := by
  subst hr
  exact ⟨a, k, rfl, ho, hb⟩

theorem cutL_more {c : UInt8} {L : List UInt8} (h : (cutL c L).2.2 = true) : (cutL c L).2.1.length + 1 ≤ L.length := by
  have := congrArg List.length (cutL_join c L)
  rw [h, if_pos rfl, List.length_append, List.length_cons] at this
  omega
def strN : Value → Nat
  | .string s => s.size
  | _ => 0
def boolN : Value → Nat
  | .bool true => 1
  | _ => 0
theorem cut_measure (L : List UInt8) : (cutL 44 L).2.1.length + (if (cutL 44 L).2.2 = true then 1 else 0) < L.length + 1 := by
  cases h : (cutL 44 L).2.2 with
  | true => have := cutL_more h; simp; omega
  | false => have := cutL_none 44 L h; rw [this]; simp

theorem gather_false (n : Nat) (R : List UInt8) (l : List (Int × Int)) : gather n R false l = some l := by cases n <;> rfl
theorem gather_full (R : List UInt8) (l : List (Int × Int)) : gather 0 R true l = none := rfl
theorem gather_bad (n : Nat) (R : List UInt8) (l : List (Int × Int)) (h : catOkL (cutL 44 R).1 = false) : gather n R true l = none := by
  cases n with
  | zero => rfl
  | succ n => simp [gather, h]
theorem gather_next (n : Nat) (R : List UInt8) (l : List (Int × Int)) (h : catOkL (cutL 44 R).1 = true) : gather (n + 1) R true l = gather n (cutL 44 R).2.1 (cutL 44 R).2.2 (l ++ [catL (cutL 44 R).1]) := by simp [gather, h]

theorem catsTo_list (l : List (Int × Int)) : catsTo (fstAt l) (sndAt l) l.length = l := by
  apply List.ext_getElem
  · simp [catsTo]
  · intro i h1 h2
    simp [catsTo, fstAt, sndAt, h2]
def ltext (base : Int) (n : Nat) (f g : Nat → Int) : List UInt8 := if labOk base n f g = true then txt base (catsTo f g n) else []

set_option maxRecDepth 100000 in
set_option maxHeartbeats 2000000 in
theorem specLabelText_any (base : Int) (a : Option Addr) (n cap : Nat) (f g : Nat → Int) (w : World) (hn : n ≤ maxLen) (hc : CatsAt w a n f g) :
    Calls Tryz.prog 23 #[.agg #[.int .i64 base, .slice a n cap]] w fun e w' => e = .returned (.string ⟨(ltext base n f g).toArray⟩) ∧ Below w.heap.size w w' := by
  have L0 := (Below.refl _ w).alloc (Nat.le_refl _) (.cells #[.int .i64 base, .slice a n cap] 39)
  have A0 := Blk.new w (.cells #[.int .i64 base, .slice a n cap] 39)
  obtain ⟨x1, x2⟩ := A0.two
  go_enter Tryz.func23, Tryz.ntmps23
  go_wp2_with fail
  refine (specOk_any _ _ _ _ f g _ hn (hc.below L0)).mono ?_
  rintro e w1 ⟨rfl, hb1⟩
  have L1 : Below w.heap.size w w1 := L0.trans (hb1.mono L0.size)
  have A1 := A0.below hb1
  clear x1 x2 A0 L0 hb1
  obtain ⟨x1, x2⟩ := A1.two
  cases h : labOk base n f g with
  | false =>
    go_wp2
    go_ret
    exact ⟨by simp [ltext, h], L1⟩
  | true =>
    obtain ⟨h1, h2, h3⟩ := labOk_out h
    have h1' := inB_iff.1 h1
    go_wp2_with fail
    refine (l1Text_any _ _ _ _ f g _ h2 (hc.below L1) (by omega) (fun i hi => by have := catOk_iff.1 (h3 i hi); omega) (fun i hi => by have := catOk_iff.1 (h3 i hi); omega)).mono ?_
    rintro e w2 ⟨rfl, hb2⟩
    clear h3
    go_wp2
    go_ret
    exact ⟨by simp [ltext, h], L1.trans (hb2.mono L1.size)⟩
end Go.Proofs.YtjceaajnemgheaaGreatDoor
