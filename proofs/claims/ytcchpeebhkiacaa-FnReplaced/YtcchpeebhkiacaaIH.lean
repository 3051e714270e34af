/- DrawDiskOk; what stays of a disk; FnCrashed, the walk. -/
import Derived.Test.YtcchpeebhkiacaaIF
import Derived.Test.YtcchpeebhkiacaaIG
import Derived.Test.YtcchpeebhkiacaaMW
import Derived.Test.YtcchpeebhkiacaaZG
namespace Go.Proofs.Ytcchpeebhkiacaa
open Go Go.RowKit Go.Deep Go.Maps

theorem BytesAt.below {w w' : World} {a : Option Addr} {n : Nat} (h : BytesAt w a n) (hb : Below w.heap.size w w') : BytesAt w' a n := fun hn => by
  obtain ⟨b, off, e, hlt, hc⟩ := h hn
  refine ⟨b, off, e, Nat.lt_of_lt_of_le hlt hb.size, fun i hi => ?_⟩
  obtain ⟨v, h1, h2⟩ := hc i hi
  exact ⟨v, (hb.cell (p := ⟨b, _, none⟩) hlt).trans h1, h2⟩
/-- what lies in new memory stays while old memory is written -/
theorem FilesAt.kept {W W' : World} {a : Option Addr} {n B : Nat} {f : Nat → FileV} (h : FilesAt W a n f) (hn : NewA B a n) (hs : W.heap.size ≤ W'.heap.size) (hk : ∀ k, B ≤ k → k < W.heap.size → W'.heap[k]? = W.heap[k]?) : FilesAt W' a n f := fun h0 => by
  obtain ⟨b, off, e, hlt, hc⟩ := h h0
  obtain ⟨b', off', e', hb⟩ := hn h0
  rw [e] at e'
  cases e'
  refine ⟨b, off, e, Nat.lt_of_lt_of_le hlt hs, fun i hi => ?_⟩
  obtain ⟨h1, h2⟩ := hc i hi
  exact ⟨(World.cell?_of_block (w := W) (hk b hb hlt)).trans h1, (World.cell?_of_block (w := W) (hk b hb hlt)).trans h2⟩
theorem DOpsAt.kept {W W' : World} {a : Option Addr} {n B : Nat} {f : Nat → OpV} (h : DOpsAt W a n f) (hn : NewA B a n) (hs : W.heap.size ≤ W'.heap.size) (hk : ∀ k, B ≤ k → k < W.heap.size → W'.heap[k]? = W.heap[k]?) : DOpsAt W' a n f := fun h0 => by
  obtain ⟨b, off, e, hlt, hc⟩ := h h0
  obtain ⟨b', off', e', hb⟩ := hn h0
  rw [e] at e'
  cases e'
  refine ⟨b, off, e, Nat.lt_of_lt_of_le hlt hs, fun i hi => ?_⟩
  obtain ⟨h1, h2, h3, h4⟩ := hc i hi
  exact ⟨(World.cell?_of_block (w := W) (hk b hb hlt)).trans h1, (World.cell?_of_block (w := W) (hk b hb hlt)).trans h2, (World.cell?_of_block (w := W) (hk b hb hlt)).trans h3, (World.cell?_of_block (w := W) (hk b hb hlt)).trans h4⟩
theorem DiskV.at.kept {W W' : World} {d : DiskV} {B : Nat} (h : d.at W) (hn : d.new B) (hs : W.heap.size ≤ W'.heap.size) (hk : ∀ k, B ≤ k → k < W.heap.size → W'.heap[k]? = W.heap[k]?) : d.at W' :=
  ⟨⟨h.1.1, h.1.2.1.kept hn.1 hs hk, h.1.2.2⟩, ⟨h.2.1.1, h.2.1.2.1.kept hn.2.1 hs hk, h.2.1.2.2⟩, ⟨h.2.2.1, h.2.2.2.1.kept hn.2.2 hs hk, h.2.2.2.2⟩⟩
theorem DiskV.at.set3 {W : World} {d : DiskV} {B P : Nat} (h : d.at W) (hn : d.new B) (hP : P < B) (x y z : Value) : d.at (((W.setCell ⟨P, 0, none⟩ x).setCell ⟨P, 1, none⟩ y).setCell ⟨P, 2, none⟩ z) := by
  refine h.kept hn (by simp only [nblk_setCell]; exact Nat.le_refl _) (fun k hk _ => ?_)
  rw [blk_setCell_other _ _ _ _ (by dsimp only; omega), blk_setCell_other _ _ _ _ (by dsimp only; omega), blk_setCell_other _ _ _ _ (by dsimp only; omega)]
theorem DiskV.at.grown {W W' : World} {d : DiskV} {B rb : Nat} (h : d.at W) (hn : d.new B) (hg : W.grownBy W' (some rb)) (hr : rb < B) : d.at W' :=
  h.kept hn hg.size (fun k hk hlt => hg.block k hlt (fun e => by cases e; omega))
set_option maxRecDepth 100000 in
set_option maxHeartbeats 4000000 in
theorem drawDiskOk_any (a : Option Addr) (n cap : Nat) (w : World) (hn : n ≤ 1048576) (hb : BytesAt w a n) :
    Calls Try.prog 7 #[.slice a n cap] w fun e w' => ∃ d : DiskV, e = .returned d.val ∧ d.at w' ∧ d.sz ≤ 500000 ∧ Below w.heap.size w w' := by
  have b0 : Below w.heap.size w (w.alloc (.cells #[.slice none 0 0, .slice none 0 0, .slice none 0 0] 27)) := (Below.refl _ w).alloc (Nat.le_refl _) _
  have A0 := Blk.new w (.cells #[.slice none 0 0, .slice none 0 0, .slice none 0 0] 27)
  have C1 := hid (l1Open_any a n cap _ hn (hb.below b0))
  clear hb
  go_enter Try.func7, Try.ntmps7
  go_wp2_with fail
  refine C1.out.mono ?_
  rintro e w1 ⟨rb, rfl, R1⟩
  have A1 := A0.below R1.E
  have hr := R1.le
  have hsz : (w.alloc (.cells #[.slice none 0 0, .slice none 0 0, .slice none 0 0] 27)).heap.size = w.heap.size + 1 := by simp
  have C2 := hid (disk_any _ rb a n cap w1 R1)
  have B1 : Hid (Below w.heap.size w w1) := hid (then_ b0 R1.E)
  clear C1 A0 b0
  have l1 := R1.lt
  clear R1
  go_wp2_with fail
  refine C2.out.mono ?_
  rintro e w2 ⟨d, rfl, hd, hs, hw, R2, g2⟩
  have A2 := A1.grown g2 (by simp; omega)
  have B2 : Hid (Below w.heap.size w w2) := hid (B1.out.trans (below_grown g2 B1.out.size (fun j e => by cases e; omega)))
  have HD := hid hd
  have HW := hid hw
  unfold DiskV.val
  clear C2 hd hw R2 g2 A1
  obtain ⟨x0, x1, x2⟩ := A2.three
  have xf := A2.warm
  have lA : w.heap.size < w1.heap.size := by omega
  go_wp2
  refine bodyPost_ret (disk_results _ _ w.heap.size _ _ _ Try.results7 (A2.put3' _ _ _) rfl) rfl ⟨d, rfl, HD.out.set3 HW.out lA _ _ _, hs, ?_⟩
  exact set3_low B2.out (Nat.le_refl _) _ _ _

theorem IntsAt.congr {w : World} {a : Option Addr} {n : Nat} {g h : Nat → Int} (hc : IntsAt w a n g) (e : ∀ i, i < n → g i = h i) : IntsAt w a n h := fun hn => by
  obtain ⟨b, off, h1, h2, h3⟩ := hc hn
  exact ⟨b, off, h1, h2, fun i hi => by rw [← e i hi]; exact h3 i hi⟩
theorem one_cell (w : World) (v : Value) : (w.alloc (.cells #[v] 2)).cell? ⟨w.heap.size, 0, none⟩ = some v := by
  have h := Blk.new w (.cells #[v] 2)
  unfold Blk at h
  generalize w.alloc (.cells #[v] 2) = W at *
  simp [World.cell?, h]
def allL (n : Nat) : List Int := (List.range n).map allK
theorem allL_len (n : Nat) : (allL n).length = n := by simp [allL]
theorem allL_succ (n : Nat) : allL (n + 1) = allL n ++ [allK n] := by unfold allL; rw [List.range_succ, List.map_append]; rfl
theorem numAt_all {n i : Nat} (hi : i < n) : numAt (allL n) i = allK i := by simp [numAt, allL, hi]
def liveIf (q : Bool) (d : DiskV) : List FileV := if q = true then d.live.toL else []
def safeIf (q : Bool) (d : DiskV) : List FileV := if q = true then d.safe.toL else []
theorem crash_all {d : DiskV} (hs : d.sz ≤ 1048576) : crA d d.ops.n allK 1099511627776 = (liveIf (dkOk d) d, dkOk d) := by
  cases t : dkOk d with
  | true =>
    rw [crA_all t (by omega) (fun i hi => by
      have h1 := tot_one (g := fun i => (d.ops.f i).sz) hi
      unfold DiskV.sz at hs
      simp only [OpV.sz] at h1 hs
      omega)]
    rfl
  | false => rw [crA_no (fun h => by rw [t] at h; cases h.1)]; rfl
theorem crash_none {d : DiskV} {g : Nat → Int} : crA d 0 g 0 = (safeIf (dkOk d) d, dkOk d) := by
  cases t : dkOk d with
  | true => rw [crA_none t]; rfl
  | false => rw [crA_no (fun h => by rw [t] at h; cases h.1)]; rfl
theorem AnsI.slices {w : World} {B : Nat} {vl vs vo : Value} {L S : List FileV} {O : List OpV} (h : AnsI w B vl vs vo L S O) : ∃ bl bs bo bx by_ bz, vl = .slice bl L.length bx ∧ vs = .slice bs S.length by_ ∧ vo = .slice bo O.length bz := by
  obtain ⟨bl, bx, rfl⟩ := ownsRow_shape h.l
  obtain ⟨bs, by_, rfl⟩ := ownsRow_shape h.s
  obtain ⟨bo, bz, rfl⟩ := ownsRow_shape h.o
  exact ⟨bl, bs, bo, bx, by_, bz, rfl, rfl, rfl⟩
theorem OwnF.fileL {w : World} {B c : Nat} {a : Option Addr} {l : List FileV} (h : OwnF w B (.slice a l.length c) l) (hn : l.length ≤ 1048576) (hw : ∀ x ∈ l, x.wf) : FileL.at w ⟨a, l.length, c, fileAt l⟩ := ZF.fileL (.inl h) hn hw
theorem toL_wf {w : World} {l : FileL} (h : l.at w) : ∀ x ∈ l.toL, x.wf := fun x hx => by obtain ⟨i, hi, rfl⟩ := toL_mem hx; exact h.2.2 i hi

set_option maxRecDepth 100000 in
set_option maxHeartbeats 16000000 in
theorem crashed_walk (a : Option Addr) (n cap : Nat) (w : World) (hb : BytesAt w a n) : Calls Try.prog 3 #[.slice a n cap] w fun e w' => e = .returned (.bool true) ∧ Below w.heap.size w w' := by
  by_cases hn : n ≤ 1048576
  rotate_left
  · have hn' : decide (1048576 < n) = true := decide_eq_true (by omega)
    have CB := hid (big_any a n cap w)
    rw [hn'] at CB
    clear hb
    go_enter Try.func3, Try.ntmps3
    go_wp2_with fail
    refine CB.out.mono ?_
    rintro e w1 ⟨rfl, rfl⟩
    go_wp2
    go_ret
    exact ⟨rfl, Below.refl _ _⟩
  have hn' : decide (1048576 < n) = false := decide_eq_false (by omega)
  have CB := hid (big_any a n cap w)
  rw [hn'] at CB
  have P1 := hid (drawDiskOk_any a n cap w hn hb)
  clear hb hn'
  go_enter Try.func3, Try.ntmps3
  go_wp2_with fail
  refine CB.out.mono ?_
  rintro e w1 ⟨rfl, rfl⟩
  clear CB
  go_wp2_with fail
  refine P1.out.mono ?_
  rintro e w2 ⟨d, rfl, hd, hs, hb2⟩
  clear P1
  have hs' : d.sz ≤ 1048576 := by omega
  have SM := hid (DiskV.small_of hs')
  have n1 : d.live.n ≤ 1048576 := SM.out.1
  have n2 : d.safe.n ≤ 1048576 := SM.out.2.1
  have n3 : d.ops.n ≤ 1048576 := SM.out.2.2
  unfold DiskV.val
  have bv : Below w2.heap.size w2 (w2.alloc (.cells #[.slice d.live.a d.live.n d.live.k, .slice d.safe.a d.safe.n d.safe.k, .slice d.ops.a d.ops.n d.ops.k] 27)) := (Below.refl _ w2).alloc (Nat.le_refl _) _
  have HD : Hid (∀ W, Below w2.heap.size w2 W → d.at W) := hid (fun W hW => hd.below hW)
  have DB : Hid (∀ W, Below (w2.alloc (.cells #[.slice d.live.a d.live.n d.live.k, .slice d.safe.a d.safe.n d.safe.k, .slice d.ops.a d.ops.n d.ops.k] 27)).heap.size (w2.alloc (.cells #[.slice d.live.a d.live.n d.live.k, .slice d.safe.a d.safe.n d.safe.k, .slice d.ops.a d.ops.n d.ops.k] 27)) W → Blk W w2.heap.size (.cells #[.slice d.live.a d.live.n d.live.k, .slice d.safe.a d.safe.n d.safe.k, .slice d.ops.a d.ops.n d.ops.k] 27)) := hid (fun W hW => (Blk.new w2 _).below hW)
  have HB := hid (then_ hb2 bv)
  have HV := hid bv
  clear hd hs bv hb2
  go_wp2_with fail
  generalize w2.alloc (.cells #[.slice d.live.a d.live.n d.live.k, .slice d.safe.a d.safe.n d.safe.k, .slice d.ops.a d.ops.n d.ops.k] 27) = V at *
  obtain ⟨q, hq⟩ : ∃ q, q = dkOk d := ⟨_, rfl⟩
  have HQ := hid hq
  have CI : Hid (∀ W, Below V.heap.size V W → Calls Try.prog 8 #[.agg #[.slice d.live.a d.live.n d.live.k, .slice d.safe.a d.safe.n d.safe.k, .slice d.ops.a d.ops.n d.ops.k]] W fun e w' => e = .returned (.bool q) ∧ Below W.heap.size W w') := hid (fun W hW => by rw [hq]; exact implDisk_any d W (HD.out W (then_ HV.out hW)) hs')
  have CS : Hid (∀ W, Below V.heap.size V W → Calls Try.prog 9 #[.agg #[.slice d.live.a d.live.n d.live.k, .slice d.safe.a d.safe.n d.safe.k, .slice d.ops.a d.ops.n d.ops.k]] W fun e w' => e = .returned (.bool q) ∧ Below W.heap.size W w') := hid (fun W hW => by rw [hq]; exact specDisk_any d W (HD.out W (then_ HV.out hW)) hs')
  clear hq
  have H1 := hid (below_drew (Below.refl V.heap.size V))
  obtain ⟨x0, x1, x2⟩ := (DB.out _ H1.out).three
  go_region_held3 (fun w' => w'.cell? ⟨w2.heap.size, 0, none⟩ = some (.slice d.live.a d.live.n d.live.k) ∧ w'.cell? ⟨w2.heap.size, 1, none⟩ = some (.slice d.safe.a d.safe.n d.safe.k) ∧ w'.cell? ⟨w2.heap.size, 2, none⟩ = some (.slice d.ops.a d.ops.n d.ops.k)) (first | with_reducible exact ⟨p0, p1, p2⟩ | with_reducible exact ⟨o0, o1, o2⟩ | with_reducible exact ⟨x0, x1, x2⟩ | go_keep | (simp only [*, and_self])) (first
    | (go_at_call 8; refine (CI.out _ (by with_reducible exact H1.out)).mono ?_; rintro e w3 ⟨rfl, hb3⟩; have B3 := hid (then_ H1.out hb3); obtain ⟨o0, o1, o2⟩ := (DB.out _ B3.out).three; clear hb3; have mk3 : True := trivial)
    | (go_at_call 9; have mq := mk3; refine (CS.out _ (by with_reducible exact B3.out)).mono ?_; rintro e w4 ⟨rfl, hb4⟩; have B4 := hid (then_ B3.out hb4); obtain ⟨p0, p1, p2⟩ := (DB.out _ B4.out).three; clear hb4))
  have BE := hid (B4.out.alloc B4.out.size (.cells #[] 2))
  have E0 := hid (OwnI.made w4 V.heap.size B4.out.size)
  clear p0 p1 p2 o0 o1 o2 x0 x1 x2 H1 B3 mk3 mq
  go_wp2
  go_loopw [4, 5] (fun v i wr => ∃ (k : Nat) (b : Option Addr) (c : Nat), k ≤ d.ops.n ∧ i = .int .i64 k ∧ v = .slice b (allL k).length c ∧ OwnI wr V.heap.size (.slice b (allL k).length c) (allL k) ∧ Below V.heap.size V wr) (fun _ i _ => d.ops.n - (intOf i).toNat)
  case atStart => exact ⟨0, _, 0, Nat.zero_le _, rfl, rfl, E0.out, BE.out⟩
  case round =>
    clear BE E0 B4
    obtain ⟨k, b, c, hk, rfl, rfl, O, B⟩ := hrel
    obtain ⟨x0, x1, x2⟩ := (DB.out _ B).three
    have HB4 := hid B
    by_cases hlt : k < d.ops.n
    · have hlt' : (k : Int) < (d.ops.n : Int) := by omega
      have HO := hid (O.alloc (.cells #[.int .i64 k] 2))
      have LI : Hid (IntL (wr.alloc (.cells #[.int .i64 k] 2)) (some ⟨wr.heap.size, 0, none⟩) [allK k]) := hid (fun _ => ⟨wr.heap.size, 0, rfl, by simp, fun j u hu => by
        cases j with
        | zero => simp at hu; subst hu; exact one_cell wr _
        | succ j => simp at hu⟩)
      have e1 := hid (allL_succ k)
      have l1 : (allL (k + 1)).length ≤ 4194304 := by rw [allL_len]; omega
      have s1 : V.heap.size ≤ (wr.alloc (.cells #[.int .i64 k] 2)).heap.size := by have := B.size; simp; omega
      have BW := hid (B.alloc B.size (.cells #[.int .i64 k] 2))
      clear O B
      go_wp2_with (at_builtin; refine wpList_append_intsR _ rfl _ _ rfl V.heap.size (.slice b (allL k).length c) (allL k) rfl HO.out _ 1 1 [allK k] rfl rfl LI.out (allL (k + 1)) e1.out l1 s1 ?_; intro a1 c1 w5 o5 g5 h5)
      have B5 : Below V.heap.size V w5 := BW.out.trans (below_grown g5 s1 (fun j e => (World.ownsRow.lt HO.out j e).1))
      go_roundw
      case rel => exact ⟨k + 1, a1, c1, by omega, by go_num, rfl, o5, B5⟩
      case measure => simp [intOf]; omega
    · obtain rfl : k = d.ops.n := by omega
      have hlt' : ¬ (d.ops.n : Int) < (d.ops.n : Int) := by omega
      have el : (allL d.ops.n).length = d.ops.n := allL_len _
      have KA : Hid (IntsAt wr b (allL d.ops.n).length allK) := hid (O.lies.ints.congr (fun i hi => numAt_all (by omega)))
      have C1 : Hid (∀ W, Below wr.heap.size wr W → Calls Try.prog 10 #[.agg #[.slice d.live.a d.live.n d.live.k, .slice d.safe.a d.safe.n d.safe.k, .slice d.ops.a d.ops.n d.ops.k], .slice b (allL d.ops.n).length c, .int .i64 1099511627776] W fun e w' => ∃ cl cs co cx cy cz, e = .returned (.tuple #[.agg #[.slice cl (liveIf q d).length cx, .slice cs (liveIf q d).length cy, .slice co 0 cz], .bool q]) ∧ AnsI w' W.heap.size (.slice cl (liveIf q d).length cx) (.slice cs (liveIf q d).length cy) (.slice co 0 cz) (liveIf q d) (liveIf q d) [] ∧ Below W.heap.size W w') := hid (fun W hW => by
        have h := implCrash_any d b (allL d.ops.n).length c allK 1099511627776 W (HD.out W (then_ (HV.out.trans (HB4.out.mono HV.out.size)) hW)) hs' (by omega) (KA.out.below hW)
        rw [el, crash_all hs', ← HQ.out] at h
        rw [el]
        refine h.mono ?_
        rintro e w' ⟨vl, vs, vo, rfl, h2, h3⟩
        obtain ⟨cl, cs, co, cx, cy, cz, rfl, rfl, rfl⟩ := h2.slices
        exact ⟨cl, cs, co, cx, cy, cz, rfl, h2, h3⟩)
      have C2 : Hid (∀ W, Below wr.heap.size wr W → Calls Try.prog 10 #[.agg #[.slice d.live.a d.live.n d.live.k, .slice d.safe.a d.safe.n d.safe.k, .slice d.ops.a d.ops.n d.ops.k], .slice none 0 0, .int .i64 0] W fun e w' => ∃ cl cs co cx cy cz, e = .returned (.tuple #[.agg #[.slice cl (safeIf q d).length cx, .slice cs (safeIf q d).length cy, .slice co 0 cz], .bool q]) ∧ AnsI w' W.heap.size (.slice cl (safeIf q d).length cx) (.slice cs (safeIf q d).length cy) (.slice co 0 cz) (safeIf q d) (safeIf q d) [] ∧ Below W.heap.size W w') := hid (fun W hW => by
        have h := implCrash_any d none 0 0 allK 0 W (HD.out W (then_ (HV.out.trans (HB4.out.mono HV.out.size)) hW)) hs' (Nat.zero_le _) (fun h => absurd h (Nat.lt_irrefl 0))
        rw [crash_none, ← HQ.out] at h
        refine h.mono ?_
        rintro e w' ⟨vl, vs, vo, rfl, h2, h3⟩
        obtain ⟨cl, cs, co, cx, cy, cz, rfl, rfl, rfl⟩ := h2.slices
        exact ⟨cl, cs, co, cx, cy, cz, rfl, h2, h3⟩)
      clear O B hk el
      go_wp2_with fail
      refine (C1.out _ (Below.refl _ _)).mono ?_
      rintro e w5 ⟨al, as_, ao, ax, ay, az, rfl, hA, hb5⟩
      have ab : Below w5.heap.size w5 (w5.alloc (.cells #[.slice al (liveIf q d).length ax, .slice as_ (liveIf q d).length ay, .slice ao 0 az] 27)) := (Below.refl _ w5).alloc (Nat.le_refl _) _
      have AB : Hid (∀ W, Below (w5.alloc (.cells #[.slice al (liveIf q d).length ax, .slice as_ (liveIf q d).length ay, .slice ao 0 az] 27)).heap.size (w5.alloc (.cells #[.slice al (liveIf q d).length ax, .slice as_ (liveIf q d).length ay, .slice ao 0 az] 27)) W → Blk W w5.heap.size (.cells #[.slice al (liveIf q d).length ax, .slice as_ (liveIf q d).length ay, .slice ao 0 az] 27)) := hid (fun W hW => (Blk.new w5 _).below hW)
      have HA := hid (hA.below ab)
      have R5 := hid (then_ hb5 ab)
      have V5 := hid (HB4.out.trans (R5.out.mono HB4.out.size))
      clear C1 hA ab hb5 x0 x1 x2 KA
      obtain ⟨x0, x1, x2⟩ := (DB.out _ V5.out).three
      go_wp2_with fail
      refine (C2.out _ R5.out).mono ?_
      rintro e w6 ⟨bl, bs, bo, bx, by_, bz, rfl, hA, hb6⟩
      have ab : Below w6.heap.size w6 (w6.alloc (.cells #[.slice bl (safeIf q d).length bx, .slice bs (safeIf q d).length by_, .slice bo 0 bz] 27)) := (Below.refl _ w6).alloc (Nat.le_refl _) _
      have BB : Hid (∀ W, Below (w6.alloc (.cells #[.slice bl (safeIf q d).length bx, .slice bs (safeIf q d).length by_, .slice bo 0 bz] 27)).heap.size (w6.alloc (.cells #[.slice bl (safeIf q d).length bx, .slice bs (safeIf q d).length by_, .slice bo 0 bz] 27)) W → Blk W w6.heap.size (.cells #[.slice bl (safeIf q d).length bx, .slice bs (safeIf q d).length by_, .slice bo 0 bz] 27)) := hid (fun W hW => (Blk.new w6 _).below hW)
      have R6 := hid (then_ hb6 ab)
      have HA6 := hid (HA.out.below R6.out)
      have HB6 := hid (hA.below ab)
      have V6 := hid (V5.out.trans (R6.out.mono V5.out.size))
      clear C2 hA ab hb6 x0 x1 x2 HA
      obtain ⟨x0, x1, x2⟩ := (DB.out _ V6.out).three
      go_wp2_with fail
      refine (CI.out _ V6.out).mono ?_
      rintro e w7 ⟨rfl, hb7⟩
      have R7 := hid (R6.out.trans (hb7.mono R6.out.size))
      have HA7 := hid (HA6.out.below hb7)
      have HB7 := hid (HB6.out.below hb7)
      have V7 := hid (V6.out.trans (hb7.mono V6.out.size))
      have D7 := hid hb7
      have LE := hid (HB.out.trans (V7.out.mono HB.out.size))
      clear x0 x1 x2 hb7 HA6 HB6
      obtain ⟨x0, x1, x2⟩ := (DB.out _ V7.out).three
      obtain ⟨y0, y1, y2⟩ := (AB.out _ R7.out).three
      cases q with
      | false =>
        have e0 : (liveIf false d).length = 0 := rfl
        have lw : Hid (w1.heap.size ≤ w7.heap.size) := hid LE.out.size
        clear CI CS
        go_wp2
        go_ret
        exact ⟨rfl, LE.out⟩
      | true =>
      have EY : Hid (syncL d = (liveIf true d)) := hid (by unfold syncL; rw [← HQ.out]; rfl)
      have CY : Hid (Calls Try.prog 11 #[.agg #[.slice d.live.a d.live.n d.live.k, .slice d.safe.a d.safe.n d.safe.k, .slice d.ops.a d.ops.n d.ops.k]] w7 fun e w' => ∃ sl ss so sx sy sz, e = .returned (.agg #[.slice sl (liveIf true d).length sx, .slice ss (liveIf true d).length sy, .slice so 0 sz]) ∧ AnsI w' w7.heap.size (.slice sl (liveIf true d).length sx) (.slice ss (liveIf true d).length sy) (.slice so 0 sz) (liveIf true d) (liveIf true d) [] ∧ Below w7.heap.size w7 w') := hid (by
        have h := implSync_any d w7 (HD.out _ (HV.out.trans (V7.out.mono HV.out.size))) hs'
        rw [EY.out] at h
        refine h.mono ?_
        rintro e w' ⟨vl, vs, vo, rfl, h2, h3⟩
        obtain ⟨sl, ss, so, sx, sy, sz, rfl, rfl, rfl⟩ := h2.slices
        exact ⟨sl, ss, so, sx, sy, sz, rfl, h2, h3⟩)
      clear CI CS
      go_wp2_with fail
      refine CY.out.mono ?_
      rintro e w8 ⟨sl, ss, so, sx, sy, sz, rfl, hA, hb8⟩
      have ab : Below w8.heap.size w8 (w8.alloc (.cells #[.slice sl (liveIf true d).length sx, .slice ss (liveIf true d).length sy, .slice so 0 sz] 27)) := (Below.refl _ w8).alloc (Nat.le_refl _) _
      have SB : Hid (∀ W, Below (w8.alloc (.cells #[.slice sl (liveIf true d).length sx, .slice ss (liveIf true d).length sy, .slice so 0 sz] 27)).heap.size (w8.alloc (.cells #[.slice sl (liveIf true d).length sx, .slice ss (liveIf true d).length sy, .slice so 0 sz] 27)) W → Blk W w8.heap.size (.cells #[.slice sl (liveIf true d).length sx, .slice ss (liveIf true d).length sy, .slice so 0 sz] 27)) := hid (fun W hW => (Blk.new w8 _).below hW)
      have Q8 := hid (then_ hb8 ab)
      have R8 := hid (R7.out.trans (Q8.out.mono R7.out.size))
      have G8 := hid (D7.out.trans (Q8.out.mono D7.out.size))
      have HA8 := hid (HA7.out.below Q8.out)
      have HB8 := hid (HB7.out.below Q8.out)
      have HS8 := hid (hA.below ab)
      have V8e := hid (V7.out.trans (Q8.out.mono V7.out.size))
      have L8 := hid (LE.out.trans (Q8.out.mono LE.out.size))
      clear CY hA ab hb8 x0 x1 x2 y0 y1 y2 HA7 HB7
      have BX : Hid (∀ W, Below (w8.alloc (.cells #[.slice sl (liveIf true d).length sx, .slice ss (liveIf true d).length sy, .slice so 0 sz] 27)).heap.size (w8.alloc (.cells #[.slice sl (liveIf true d).length sx, .slice ss (liveIf true d).length sy, .slice so 0 sz] 27)) W → Blk W w2.heap.size (.cells #[.slice d.live.a d.live.n d.live.k, .slice d.safe.a d.safe.n d.safe.k, .slice d.ops.a d.ops.n d.ops.k] 27) ∧ Blk W w5.heap.size (.cells #[.slice al (liveIf true d).length ax, .slice as_ (liveIf true d).length ay, .slice ao 0 az] 27) ∧ Blk W w6.heap.size (.cells #[.slice bl (safeIf true d).length bx, .slice bs (safeIf true d).length by_, .slice bo 0 bz] 27) ∧ Blk W w8.heap.size (.cells #[.slice sl (liveIf true d).length sx, .slice ss (liveIf true d).length sy, .slice so 0 sz] 27)) := hid (fun W hW => ⟨(DB.out _ V8e.out).below hW, (AB.out _ R8.out).below hW, (BB.out _ G8.out).below hW, SB.out _ hW⟩)
      have D8 : Hid (∀ W, Below (w8.alloc (.cells #[.slice sl (liveIf true d).length sx, .slice ss (liveIf true d).length sy, .slice so 0 sz] 27)).heap.size (w8.alloc (.cells #[.slice sl (liveIf true d).length sx, .slice ss (liveIf true d).length sy, .slice so 0 sz] 27)) W → Below w2.heap.size w2 W) := hid (fun W hW => then_ (HV.out.trans (V8e.out.mono HV.out.size)) hW)
      have ln1 : (liveIf true d).length ≤ 1048576 := by rw [show (liveIf true d) = d.live.toL from rfl, toL_len]; exact n1
      have ln2 : (safeIf true d).length ≤ 1048576 := by rw [show (safeIf true d) = d.safe.toL from rfl, toL_len]; exact n2
      have lw1 : Hid (∀ x ∈ (liveIf true d), x.wf) := hid (toL_wf (HD.out _ (D8.out _ (Below.refl _ _))).1)
      have lw2 : Hid (∀ x ∈ (safeIf true d), x.wf) := hid (toL_wf (HD.out _ (D8.out _ (Below.refl _ _))).2.1)
      have F1 : Hid (∀ W, Below (w8.alloc (.cells #[.slice sl (liveIf true d).length sx, .slice ss (liveIf true d).length sy, .slice so 0 sz] 27)).heap.size (w8.alloc (.cells #[.slice sl (liveIf true d).length sx, .slice ss (liveIf true d).length sy, .slice so 0 sz] 27)) W → Calls Try.prog 12 #[.slice al (liveIf true d).length ax, .slice d.live.a d.live.n d.live.k] W fun e w' => e = .returned (.bool true) ∧ Below W.heap.size W w') := hid (fun W hW => sameFiles_yes ⟨al, (liveIf true d).length, ax, fileAt (liveIf true d)⟩ d.live W (OwnF.fileL (HA8.out.l.below hW) ln1 lw1.out) (HD.out W (D8.out W hW)).1 (map_fileAt (liveIf true d)))
      have F2 : Hid (∀ W, Below (w8.alloc (.cells #[.slice sl (liveIf true d).length sx, .slice ss (liveIf true d).length sy, .slice so 0 sz] 27)).heap.size (w8.alloc (.cells #[.slice sl (liveIf true d).length sx, .slice ss (liveIf true d).length sy, .slice so 0 sz] 27)) W → Calls Try.prog 12 #[.slice as_ (liveIf true d).length ay, .slice d.live.a d.live.n d.live.k] W fun e w' => e = .returned (.bool true) ∧ Below W.heap.size W w') := hid (fun W hW => sameFiles_yes ⟨as_, (liveIf true d).length, ay, fileAt (liveIf true d)⟩ d.live W (OwnF.fileL (HA8.out.s.below hW) ln1 lw1.out) (HD.out W (D8.out W hW)).1 (map_fileAt (liveIf true d)))
      have F3 : Hid (∀ W, Below (w8.alloc (.cells #[.slice sl (liveIf true d).length sx, .slice ss (liveIf true d).length sy, .slice so 0 sz] 27)).heap.size (w8.alloc (.cells #[.slice sl (liveIf true d).length sx, .slice ss (liveIf true d).length sy, .slice so 0 sz] 27)) W → Calls Try.prog 12 #[.slice bl (safeIf true d).length bx, .slice d.safe.a d.safe.n d.safe.k] W fun e w' => e = .returned (.bool true) ∧ Below W.heap.size W w') := hid (fun W hW => sameFiles_yes ⟨bl, (safeIf true d).length, bx, fileAt (safeIf true d)⟩ d.safe W (OwnF.fileL (HB8.out.l.below hW) ln2 lw2.out) (HD.out W (D8.out W hW)).2.1 (map_fileAt (safeIf true d)))
      have F4 : Hid (∀ W, Below (w8.alloc (.cells #[.slice sl (liveIf true d).length sx, .slice ss (liveIf true d).length sy, .slice so 0 sz] 27)).heap.size (w8.alloc (.cells #[.slice sl (liveIf true d).length sx, .slice ss (liveIf true d).length sy, .slice so 0 sz] 27)) W → Calls Try.prog 12 #[.slice ss (liveIf true d).length sy, .slice d.live.a d.live.n d.live.k] W fun e w' => e = .returned (.bool true) ∧ Below W.heap.size W w') := hid (fun W hW => sameFiles_yes ⟨ss, (liveIf true d).length, sy, fileAt (liveIf true d)⟩ d.live W (OwnF.fileL (HS8.out.s.below hW) ln1 lw1.out) (HD.out W (D8.out W hW)).1 (map_fileAt (liveIf true d)))
      have W0 := hid (Below.refl (w8.alloc (.cells #[.slice sl (liveIf true d).length sx, .slice ss (liveIf true d).length sy, .slice so 0 sz] 27)).heap.size (w8.alloc (.cells #[.slice sl (liveIf true d).length sx, .slice ss (liveIf true d).length sy, .slice so 0 sz] 27)))
      obtain ⟨x0, x1, x2⟩ := (BX.out _ W0.out).1.three
      obtain ⟨y0, y1, y2⟩ := (BX.out _ W0.out).2.1.three
      obtain ⟨z0, z1, z2⟩ := (BX.out _ W0.out).2.2.1.three
      obtain ⟨v0, v1, v2⟩ := (BX.out _ W0.out).2.2.2.three
      go_wp2_with fail
      refine (F1.out _ W0.out).mono ?_
      rintro e u1 ⟨rfl, hb⟩
      have u1B := hid (W0.out.trans (hb.mono W0.out.size))
      clear hb x0 x1 x2 y0 y1 y2 z0 z1 z2 v0 v1 v2
      obtain ⟨x0, x1, x2⟩ := (BX.out _ u1B.out).1.three
      obtain ⟨y0, y1, y2⟩ := (BX.out _ u1B.out).2.1.three
      obtain ⟨z0, z1, z2⟩ := (BX.out _ u1B.out).2.2.1.three
      obtain ⟨v0, v1, v2⟩ := (BX.out _ u1B.out).2.2.2.three
      go_wp2_with fail
      refine (F2.out _ u1B.out).mono ?_
      rintro e u2 ⟨rfl, hb⟩
      have u2B := hid (u1B.out.trans (hb.mono u1B.out.size))
      clear hb x0 x1 x2 y0 y1 y2 z0 z1 z2 v0 v1 v2
      obtain ⟨x0, x1, x2⟩ := (BX.out _ u2B.out).1.three
      obtain ⟨y0, y1, y2⟩ := (BX.out _ u2B.out).2.1.three
      obtain ⟨z0, z1, z2⟩ := (BX.out _ u2B.out).2.2.1.three
      obtain ⟨v0, v1, v2⟩ := (BX.out _ u2B.out).2.2.2.three
      go_wp2_with fail
      refine (F3.out _ u2B.out).mono ?_
      rintro e u3 ⟨rfl, hb⟩
      have u3B := hid (u2B.out.trans (hb.mono u2B.out.size))
      clear hb x0 x1 x2 y0 y1 y2 z0 z1 z2 v0 v1 v2
      obtain ⟨x0, x1, x2⟩ := (BX.out _ u3B.out).1.three
      obtain ⟨y0, y1, y2⟩ := (BX.out _ u3B.out).2.1.three
      obtain ⟨z0, z1, z2⟩ := (BX.out _ u3B.out).2.2.1.three
      obtain ⟨v0, v1, v2⟩ := (BX.out _ u3B.out).2.2.2.three
      go_wp2_with fail
      refine (F4.out _ u3B.out).mono ?_
      rintro e u4 ⟨rfl, hb⟩
      have u4B := hid (u3B.out.trans (hb.mono u3B.out.size))
      clear hb x0 x1 x2 y0 y1 y2 z0 z1 z2 v0 v1 v2
      obtain ⟨x0, x1, x2⟩ := (BX.out _ u4B.out).1.three
      obtain ⟨y0, y1, y2⟩ := (BX.out _ u4B.out).2.1.three
      obtain ⟨z0, z1, z2⟩ := (BX.out _ u4B.out).2.2.1.three
      obtain ⟨v0, v1, v2⟩ := (BX.out _ u4B.out).2.2.2.three
      go_wp2
      go_ret
      exact ⟨rfl, L8.out.trans (u4B.out.mono L8.out.size)⟩
end Go.Proofs.Ytcchpeebhkiacaa
