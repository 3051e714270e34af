/- Crash: the model. -/
import Derived.Test.YtcdhhmedcplblaaMR
import Derived.Test.YtcdhhmedcplblaaMS
import Derived.Test.YtcdhhmedcplblaaME
namespace Go.Proofs.Ytcdhhmedcplblaa
open Go Go.RowKit Go.Deep Go.Maps

theorem cr_results {F : Func} (tmps : Array Value) (W : World) (P : Nat) (x y z u : Value) (hF : F.results = #[.cell 6 33, .tmp 7]) (h : Blk W P (.cells #[x, y, z] 33)) (h2 : tmps[6]? = some (.pointer (some ⟨P, 0, none⟩))) (h5 : tmps[7]? = some u) :
    (results F tmps).run Try.prog W = .ok (.tuple #[.agg #[x, y, z], u]) W := by
  obtain ⟨z0, z1, z2⟩ := h.three
  simp [results, hF, go_sem, h2, h5, z0, z1, z2]
theorem Blk.put3 {W : World} {P t : Nat} {a b c : Value} (h : Blk W P (.cells #[a, b, c] t)) (x y z : Value) : Blk (((W.setCell ⟨P, 0, none⟩ x).setCell ⟨P, 1, none⟩ y).setCell ⟨P, 2, none⟩ z) P (.cells #[x, y, z] t) := ((h.setAt (i := 0) x).setAt (i := 1) y).setAt (i := 2) z
theorem set3_low {B : Nat} {V W : World} {P : Nat} (h : Below B V W) (hP : B ≤ P) (x y z : Value) : Below B V (((W.setCell ⟨P, 0, none⟩ x).setCell ⟨P, 1, none⟩ y).setCell ⟨P, 2, none⟩ z) := ((h.setCell hP x).setCell hP y).setCell hP z
theorem wpList_zeroF {ops : Array Oper} {rest : List Oper} {o : Oper} {a : Act} {Q : Exit → Act → World → Prop} (w : World) (hgd : o.guard = none) (s x : Operand)
    (ho : o.op = .call { callee := .builtin .append, args := #[s, x], argTypes := #[30, 30] })
    (ab : Option Addr) (hs : a.eval s = .slice ab 0 0) (ad : Option Addr) (n c : Nat) (f : Nat → FileV) (hx : a.eval x = .slice ad n c) (hc : FilesAt w ad n f) (hm : n ≤ 2000000)
    (h : ∀ a' c' w', ZF w' w.heap.size (.slice a' n c') ((List.range n).map f) → Below w.heap.size w w' → wpList Try.prog ops Q rest (a.put o.dst (.slice a' n c')) w') : wpList Try.prog ops Q (o :: rest) a w := by
  refine wpList_plain hgd fun K hK => ?_
  obtain ⟨a', c', w', hr, h2, h3⟩ := run_zeroF w o.type ab ad n c f hc hm
  unfold Oper.wp execOp
  simp only [ho, resolve, invoke, builtin, Sem.run_bind, Sem.run_pure, Result.andThen_ok, List.map_toArray, List.map_cons, List.map_nil, hs, hx, hr]
  exact hK _ _ (h a' c' w' h2 h3)
theorem blk_drewN {W : World} {P : Nat} {o : Obj} (h : Blk W P o) (k : Nat) : Blk (W.drewN k) P o := h.below (below_drewN (Below.refl _ W) k)
theorem ZF.fileL {w : World} {B c : Nat} {a : Option Addr} {l : List FileV} (h : ZF w B (.slice a l.length c) l) (hn : l.length ≤ 1048576) (hw : ∀ x ∈ l, x.wf) : FileL.at w ⟨a, l.length, c, fileAt l⟩ := by
  obtain ⟨a', c', e, hf⟩ := h.at
  cases e
  exact ⟨Nat.le_trans hn (by unfold maxLen; omega), hf, fun i hi => hw _ (fileAt_mem hi)⟩
theorem form_empty {o : OpV} (h : opForm o = true) (k : o.kind ≠ 1) : o.data.size = 0 := by
  have hh : o.data.toList.isEmpty = true := by
    unfold opForm at h
    simp only [Bool.and_eq_true] at h
    have h2 := h.2
    split at h2
    · simp only [Bool.and_eq_true] at h2; exact h2.2
    · simp only [Bool.and_eq_true, Bool.or_eq_true, decide_eq_true_eq] at h2
      rcases h2.2 with h3 | h3
      · exact absurd h3 k
      · exact h3
  rw [Lib.toList_data] at hh
  have : o.data.data.toList = [] := List.isEmpty_iff.1 hh
  show o.data.data.size = 0
  simpa using congrArg List.length this
theorem way_data {M : List FileV} {i : Nat} (h : OnWay M i) (hi : i ≤ 200) : (∀ j, j < M.length → (fileAt M j).data.size ≤ 1000000000) ∧ tot (dsz (fileAt M)) M.length ≤ 1000000000 ∧ M.length ≤ 260 := by
  have h1 := h.bytes
  have h2 := h.len
  refine ⟨fun j hj => ?_, by rw [tot_sum]; omega, by omega⟩
  have : (fileAt M j).data.size ≤ bytesL M := look_bytes (lookL_mem h.neat.rise _ (fileAt_mem hj))
  omega
set_option maxRecDepth 100000 in
set_option maxHeartbeats 16000000 in
theorem specCrash_any (d : DiskV) (ka : Option Addr) (n kc : Nat) (g : Nat → Int) (t : Int) (w : World) (hd : d.at w) (hs : d.sz ≤ 1048576) (hn : n ≤ 1048576) (hk : IntsAt w ka n g) :
    Calls Try.prog 18 #[d.val, .slice ka n kc, .int .i64 t] w fun e w' => ∃ vl vs vo, e = .returned (.tuple #[.agg #[vl, vs, vo], .bool (crA d n g t).2]) ∧ AnsS w' w.heap.size vl vs vo (crA d n g t).1 (crA d n g t).1 [] ∧ Below w.heap.size w w' := by
  obtain ⟨A0, R0, b0⟩ := two_boxes w (.cells #[.slice d.live.a d.live.n d.live.k, .slice d.safe.a d.safe.n d.safe.k, .slice d.ops.a d.ops.n d.ops.k] 33) (.cells #[.slice none 0 0, .slice none 0 0, .slice none 0 0] 33)
  have HD := hid hd
  have HK := hid hk
  have zo : Hid (∀ i, i < d.ops.n → (d.ops.f i).wf ∧ (d.ops.f i).data.size ≤ 1048576) := hid (fun i hi => ⟨hd.2.2.2.2 i hi, by
    have h1 := tot_one (g := fun i => (d.ops.f i).sz) hi
    unfold DiskV.sz at hs
    simp only [OpV.sz] at h1 hs
    omega⟩)
  have s0 : d.ops.n ≤ 1048576 := (DiskV.small_of hs).2.2
  have s1 : d.safe.n ≤ 1048576 := (DiskV.small_of hs).2.1
  have C1 := hid (specDisk_any d _ (hd.below b0) hs)
  unfold DiskV.val at C1 ⊢
  obtain ⟨x0, x1, x2⟩ := A0.three
  obtain ⟨r0, r1, r2⟩ := R0.three
  have rf := R0.warm
  have NO : Hid (¬ (dkOk d = true ∧ 0 ≤ t ∧ kpAll n g d.ops.n = true ∧ okL (runK n g d.ops.f t d.safe.toL n) = true) → crA d n g t = ([], false)) := hid crA_no
  clear hd hs hk
  go_enter Try.func18, Try.ntmps18
  go_wp2_with fail
  refine C1.out.mono ?_
  rintro e w1 ⟨rfl, hb1⟩
  have A1 := A0.below hb1
  have R1 := R0.below hb1
  have B1 := then_ b0 hb1
  clear x0 x1 x2 r0 r1 r2 rf C1 A0 R0 b0 hb1
  obtain ⟨r0, r1, r2⟩ := R1.three
  have rf := R1.warm
  cases t1 : dkOk d with
  | false =>
    have E := hid (NO.out (fun h => by rw [t1] at h; cases h.1))
    go_wp2
    refine bodyPost_ret (cr_results _ _ (w.heap.size + 1) (.slice none 0 0) (.slice none 0 0) (.slice none 0 0) (.bool false) Try.results18 (R1.put3 _ _ _) rfl rfl) rfl ⟨_, _, _, by rw [E.out], ?_, ?_⟩
    · rw [E.out]
      exact AnsS.none _ _
    · exact set3_low B1 (by omega) _ _ _
  | true =>
  by_cases t2 : t < 0
  · have E := hid (NO.out (fun h => by omega))
    go_wp2
    refine bodyPost_ret (cr_results _ _ (w.heap.size + 1) (.slice none 0 0) (.slice none 0 0) (.slice none 0 0) (.bool false) Try.results18 (R1.put3 _ _ _) rfl rfl) rfl ⟨_, _, _, by rw [E.out], ?_, ?_⟩
    · rw [E.out]
      exact AnsS.none _ _
    · exact set3_low B1 (by omega) _ _ _
  have T1 := hid t1
  have T2 : Hid (0 ≤ t) := hid (by omega)
  clear t1 r0 r1 r2 rf
  go_wp2
  go_loopw [8] (fun i wr => ∃ k : Nat, k ≤ n ∧ i = .int .i64 k ∧ (∀ j, j < k → kpOk g d.ops.n j = true) ∧ Blk wr w.heap.size (.cells #[.slice d.live.a d.live.n d.live.k, .slice d.safe.a d.safe.n d.safe.k, .slice d.ops.a d.ops.n d.ops.k] 33) ∧ Blk wr (w.heap.size + 1) (.cells #[.slice none 0 0, .slice none 0 0, .slice none 0 0] 33) ∧ Below w.heap.size w wr) (fun i _ => n - (intOf i).toNat)
  case atStart => exact ⟨0, Nat.zero_le _, rfl, fun j hj => absurd hj (Nat.not_lt_zero j), A1, R1, B1⟩
  case round =>
    clear A1 R1 B1
    obtain ⟨k, hk, rfl, hall, A, R, hB⟩ := hrel
    have HALL := hid hall
    clear hall
    by_cases hlt' : k < n
    · obtain ⟨b, off, ea, hlt, hcc⟩ := (HK.out.below hB) (by omega)
      have g0 := hcc k hlt'
      obtain ⟨x0, x1, x2⟩ := A.three
      subst ea
      have i0 : (0 : Int) ≤ (k : Int) := by omega
      have i1 : (k : Int) < (n : Int) := by omega
      have wo : IntKind.i64.wrap ((d.ops.n : Int) - 1) = (d.ops.n : Int) - 1 := by rw [IntKind.wrap_i64]; omega
      have AA := hid A
      have EK : Hid (kpOk g d.ops.n k = (inB (g k) 0 ((d.ops.n : Int) - 1) && (decide (k = 0) || decide (g (k - 1) < g k)))) := hid rfl
      have CI : Hid (∀ W, Calls Try.prog 40 #[.int .i64 (g k), .int .i64 0, .int .i64 ((d.ops.n : Int) - 1)] W fun e w' => e = .returned (.bool (inB (g k) 0 ((d.ops.n : Int) - 1))) ∧ w' = W) := hid (fun W => l1In_any _ _ _ W)
      obtain ⟨r0, r1, r2⟩ := R.three
      have rf := R.warm
      generalize inB (g k) 0 ((d.ops.n : Int) - 1) = q at *
      cases q with
      | false =>
        have E := hid (NO.out (fun h => by have := kpAll_at h.2.2.1 hlt'; rw [EK.out] at this; cases this))
        clear hcc A
        go_wp2_with fail
        go_quiet ((go_at_call 40; with_reducible exact Calls.quiet_of_same (CI.out _)))
        go_wp2
        refine bodyPost_ret (cr_results _ _ (w.heap.size + 1) (.slice none 0 0) (.slice none 0 0) (.slice none 0 0) (.bool false) Try.results18 ((blk_drewN R _).put3 _ _ _) rfl rfl) rfl ⟨_, _, _, by rw [E.out], ?_, ?_⟩
        · rw [E.out]
          exact AnsS.none _ _
        · exact set3_low (below_drewN hB _) (by omega) _ _ _
      | true =>
        by_cases hz : k = 0
        · have EY : Hid (kpOk g d.ops.n k = true) := hid (by rw [EK.out, hz]; rfl)
          have kz : ¬ 0 < k := by omega
          have kd : decide (0 < k) = false := decide_eq_false kz
          have HZ := hid hz
          clear hcc A hz
          go_wp2_with fail
          go_quiet ((go_at_call 40; with_reducible exact Calls.quiet_of_same (CI.out _)))
          go_wp2
          go_roundw
          case rel => exact ⟨k + 1, by omega, by go_num, fun j hj => by
            have e : j = k := by have := HZ.out; omega
            rw [e]
            exact EY.out, blk_drewN AA.out _, blk_drewN R _, below_drewN hB _⟩
          case measure => simp [intOf]; omega
        · have g1 := hcc (k - 1) (by omega)
          have kz : 0 < k := by omega
          have kd : decide (0 < k) = true := decide_eq_true kz
          have wk : IntKind.i64.wrap ((k : Int) - 1) = (k : Int) - 1 := by rw [IntKind.wrap_i64]; omega
          have j0 : (0 : Int) ≤ (k : Int) - 1 := by omega
          have j1 : (k : Int) - 1 < (n : Int) := by omega
          have j2 : ((k : Int) - 1).toNat = k - 1 := by omega
          by_cases hq : g (k - 1) < g k
          · have EY : Hid (kpOk g d.ops.n k = true) := hid (by rw [EK.out]; simp [hq])
            have hq' : ¬ g k ≤ g (k - 1) := by omega
            clear hcc A
            go_wp2_with fail
            go_quiet ((go_at_call 40; with_reducible exact Calls.quiet_of_same (CI.out _)))
            go_wp2
            go_roundw
            case rel => exact ⟨k + 1, by omega, by go_num, fun j hj => by
              by_cases e : j = k
              · rw [e]; exact EY.out
              · exact HALL.out j (by omega), blk_drewN AA.out _, blk_drewN R _, below_drewN hB _⟩
            case measure => simp [intOf]; omega
          · have hq' : g k ≤ g (k - 1) := by omega
            have E := hid (NO.out (fun h => by have := kpAll_at h.2.2.1 hlt'; rw [EK.out] at this; simp [hz, hq] at this))
            clear hcc A
            go_wp2_with fail
            go_quiet ((go_at_call 40; with_reducible exact Calls.quiet_of_same (CI.out _)))
            go_wp2
            refine bodyPost_ret (cr_results _ _ (w.heap.size + 1) (.slice none 0 0) (.slice none 0 0) (.slice none 0 0) (.bool false) Try.results18 ((blk_drewN R _).put3 _ _ _) rfl rfl) rfl ⟨_, _, _, by rw [E.out], ?_, ?_⟩
            · rw [E.out]
              exact AnsS.none _ _
            · exact set3_low (below_drewN hB _) (by omega) _ _ _
    · have ek : k = n := by omega
      have HEK := hid ek
      have KP : Hid (kpAll n g d.ops.n = true) := hid (List.all_eq_true.2 fun j hj => HALL.out j (by have := List.mem_range.1 hj; omega))
      have n2 : n ≤ 200 := Nat.le_trans (kp_few KP.out) (dkOk_safe T1.out).2
      have WAY : Hid (∀ i, i ≤ n → OnWay (runK n g d.ops.f t d.safe.toL i) i) := hid (runK_way (way0 HD.out T1.out) (dkOk_safe T1.out).2 KP.out (dkOk_forms T1.out) zo.out)
      have bE : Below wr.heap.size wr (wr.alloc (.cells #[] 72)) := (Below.refl _ wr).alloc (Nat.le_refl _) _
      have FS := hid (HD.out.2.1.2.1.below (then_ hB bE))
      obtain ⟨x0, x1, x2⟩ := A.three
      obtain ⟨y0, y1, y2⟩ := (A.below bE).three
      have lA := A.lt
      have HE := hid bE
      clear ek bE
      go_wp2_with (at_builtin; refine wpList_zeroF _ rfl _ _ rfl _ rfl d.safe.a d.safe.n d.safe.k d.safe.f rfl FS.out (by omega) ?_; intro a1 c1 w2 z1 b1)
      have A2 := (A.below HE.out).below b1
      have R2 := (R.below HE.out).below b1
      have B2 := then_ (then_ hB HE.out) b1
      have Z2 : ZF w2 w.heap.size (.slice a1 (runK n g d.ops.f t d.safe.toL 0).length c1) (runK n g d.ops.f t d.safe.toL 0) := by
        have e : (runK n g d.ops.f t d.safe.toL 0).length = d.safe.n := toL_len d.safe
        rw [e]
        exact z1.base (then_ hB HE.out).size
      have E2 : d.safe.n = (runK n g d.ops.f t d.safe.toL 0).length := (toL_len d.safe).symm
      clear x0 x1 x2 y0 y1 y2 z1 b1 A R hB HE FS HALL lA
      go_loopw [9, 10] (fun v i wr => ∃ (k : Nat) (a : Option Addr) (c : Nat), k ≤ n ∧ i = .int .i64 k ∧ v = .slice a (runK n g d.ops.f t d.safe.toL k).length c ∧ ZF wr w.heap.size (.slice a (runK n g d.ops.f t d.safe.toL k).length c) (runK n g d.ops.f t d.safe.toL k) ∧ Blk wr w.heap.size (.cells #[.slice d.live.a d.live.n d.live.k, .slice d.safe.a d.safe.n d.safe.k, .slice d.ops.a d.ops.n d.ops.k] 33) ∧ Blk wr (w.heap.size + 1) (.cells #[.slice none 0 0, .slice none 0 0, .slice none 0 0] 33) ∧ Below w.heap.size w wr) (fun _ i _ => n - (intOf i).toNat)
      case atStart => exact ⟨0, a1, c1, Nat.zero_le _, rfl, by rw [E2], Z2, A2, R2, B2⟩
      case round =>
        clear A2 R2 B2 Z2 E2
        rename_i k0 _ _ _ _ _ _ _
        obtain ⟨k, a, c, hk, rfl, rfl, hz, A, R, hB⟩ := hrel
        have HZ := hid hz
        clear hz
        by_cases hlt' : k < n
        · obtain ⟨b, off, ea, hlt, hcc⟩ := (HK.out.below hB) (by omega)
          obtain ⟨hg0, hg1⟩ := kpOk_in (kpAll_at KP.out hlt')
          obtain ⟨m, hm⟩ : ∃ m : Nat, g k = (m : Int) := ⟨(g k).toNat, by omega⟩
          have g0 := hcc k hlt'
          rw [hm] at g0 hg0 hg1
          have hmn : m < d.ops.n := by omega
          obtain ⟨b', off', ea', hlt2, hcc'⟩ := (HD.out.2.2.2.1.below hB) (by omega)
          obtain ⟨h0, h1, h2, h3⟩ := hcc' m hmn
          obtain ⟨x0, x1, x2⟩ := A.three
          rw [ea'] at x2
          have HM := hid hm
          have HEA := hid ea'
          subst ea
          have i0 : (0 : Int) ≤ (k : Int) := by omega
          have i1 : (k : Int) < (n : Int) := by omega
          have AA := hid A
          have bN : Hid (Below wr.heap.size wr (wr.alloc (.cells #[.int .i64 0, .string ⟨#[]⟩, .string ⟨#[]⟩, .string ⟨#[]⟩] 37))) := hid ((Below.refl _ wr).alloc (Nat.le_refl _) _)
          have g0' := (bN.out.cell (p := ⟨b, off + k, none⟩) hlt).trans g0
          have h0' := (bN.out.cell (p := ⟨b', _, none⟩) hlt2).trans h0
          have h1' := (bN.out.cell (p := ⟨b', _, none⟩) hlt2).trans h1
          have h2' := (bN.out.cell (p := ⟨b', _, none⟩) hlt2).trans h2
          have h3' := (bN.out.cell (p := ⟨b', _, none⟩) hlt2).trans h3
          have x2' := (bN.out.cell (p := ⟨w.heap.size, 2, none⟩) A.lt).trans x2
          clear hcc hcc' A hm ea' x0 x1
          go_wp2_with fail
          go_region_held3 (fun W => W.cell? ⟨w.heap.size, 2, none⟩ = some (.slice (some ⟨b', off', none⟩) d.ops.n d.ops.k) ∧ W.cell? ⟨b, off + k, none⟩ = some (.int .i64 (m : Int)) ∧ W.cell? ⟨b', off' + m * 4, none⟩ = some (.int .i64 (d.ops.f m).kind) ∧ W.cell? ⟨b', off' + m * 4 + 1, none⟩ = some (.string (d.ops.f m).name) ∧ W.cell? ⟨b', off' + m * 4 + 2, none⟩ = some (.string (d.ops.f m).to) ∧ W.cell? ⟨b', off' + m * 4 + 3, none⟩ = some (.string (d.ops.f m).data)) (first | go_keep | (simp only [*])) (fail)
          have OB := blk_drewN (Blk.new wr (.cells #[Value.int IntKind.i64 (d.ops.f m).kind, Value.string (d.ops.f m).name, Value.string (d.ops.f m).to, .string (d.ops.f m).data] 37)) 1
          have bV := below_drew ((Below.refl _ wr).alloc (Nat.le_refl _) (.cells #[Value.int IntKind.i64 (d.ops.f m).kind, Value.string (d.ops.f m).name, Value.string (d.ops.f m).to, .string (d.ops.f m).data] 37))
          change Blk (wr.alloc (.cells #[Value.int IntKind.i64 (d.ops.f m).kind, Value.string (d.ops.f m).name, Value.string (d.ops.f m).to, .string (d.ops.f m).data] 37)).drew _ _ at OB
          generalize (wr.alloc (.cells #[Value.int IntKind.i64 (d.ops.f m).kind, Value.string (d.ops.f m).name, Value.string (d.ops.f m).to, .string (d.ops.f m).data] 37)).drew = V at *
          have AV := AA.out.below bV
          have RV := R.below bV
          have BV := then_ hB bV
          have lV : wr.heap.size < V.heap.size := OB.lt
          have lw : w.heap.size + 1 < wr.heap.size := R.lt
          have WK := WAY.out k hk
          have GK := hid (opK_good (t := t) KP.out (dkOk_forms T1.out) zo.out hlt')
          have CG : Hid (∀ (W : World) (x : Int) (p q r : ByteArray), Below wr.heap.size wr W → opK n g d.ops.f t k = ⟨x, p, q, r⟩ → Calls Try.prog 41 #[.slice a (runK n g d.ops.f t d.safe.toL k).length c, .agg #[.int .i64 x, .string p, .string q, .string r]] W fun e w' => ∃ v z, e = .returned (.tuple #[v, .bool z]) ∧ OwnF w' W.heap.size v (runK n g d.ops.f t d.safe.toL (k + 1)) ∧ Below W.heap.size W w') := hid (fun W x p q r hW he => by
            have hw := way_data WK (by omega)
            have h := l11Do_any ⟨a, (runK n g d.ops.f t d.safe.toL k).length, c, fileAt (runK n g d.ops.f t d.safe.toL k)⟩ (opK n g d.ops.f t k) W ((HZ.out.fileL (by omega) WK.wf).below hW) (by show (runK n g d.ops.f t d.safe.toL k).length ≤ _; omega) hw.1 (by have := GK.out.2.2; omega)
            rw [he] at h
            refine h.mono ?_
            rintro e w' ⟨v, rfl, ho, hb⟩
            rw [← he] at ho
            exact ⟨v, _, rfl, ho, hb⟩)
          have FM : Hid (opForm (d.ops.f m) = true) := hid (dkOk_forms T1.out m hmn)
          have DM : Hid ((d.ops.f m).kind ≠ 1 → (d.ops.f m).data.size = 0) := hid (fun h => form_empty FM.out h)
          have OK0 : Hid (opK n g d.ops.f t k = if k = n - 1 then cutO (d.ops.f m) t else d.ops.f m) := hid (by unfold opK; rw [HM.out]; rfl)
          have wn : IntKind.i64.wrap ((n : Int) - 1) = (n : Int) - 1 := by rw [IntKind.wrap_i64]; omega
          obtain ⟨z0, z1, z2, z3⟩ := OB.four
          have zf := OB.warm
          have OBH := hid OB
          have END : Hid (∀ (W w3 : World) (v : Value), Below wr.heap.size wr W → OwnF w3 W.heap.size v (runK n g d.ops.f t d.safe.toL (k + 1)) → Below W.heap.size W w3 → ∃ va vc, v = .slice va (runK n g d.ops.f t d.safe.toL (k + 1)).length vc ∧ ZF w3 w.heap.size (.slice va (runK n g d.ops.f t d.safe.toL (k + 1)).length vc) (runK n g d.ops.f t d.safe.toL (k + 1)) ∧ Blk w3 w.heap.size (.cells #[.slice d.live.a d.live.n d.live.k, .slice d.safe.a d.safe.n d.safe.k, .slice d.ops.a d.ops.n d.ops.k] 33) ∧ Blk w3 (w.heap.size + 1) (.cells #[.slice none 0 0, .slice none 0 0, .slice none 0 0] 33) ∧ Below w.heap.size w w3) := hid (fun W w3 v hW ho hb => by
            obtain ⟨va, vc, rfl⟩ := ownsRow_shape ho
            exact ⟨va, vc, rfl, .inl (own_base ho (then_ hB hW).size), (AA.out.below hW).below hb, (R.below hW).below hb, then_ (then_ hB hW) hb⟩)
          clear g0 h0 h1 h2 h3 x2 g0' h0' h1' h2' h3' x2' bN AV RV OB
          have HB := hid bV
          have HB0 := hid hB
          have HR := hid R
          clear bV hB R BV
          by_cases e1 : k = n - 1
          · have HE1 := hid e1
            have e1' : ((k : Int) == (n : Int) - 1) = true := by rw [beq_iff_eq]; omega
            have e1'' : (k : Int) = (n : Int) - 1 := by omega
            by_cases e2 : (d.ops.f m).kind = 1
            · rw [e2] at z0
              have HE2 := hid e2
              clear e2
              by_cases e3 : t < (d.ops.f m).data.size
              · have EO : Hid (opK n g d.ops.f t k = ⟨1, (d.ops.f m).name, (d.ops.f m).to, (d.ops.f m).data.extract 0 t.toNat⟩) := hid (by
                  rw [OK0.out, if_pos e1]
                  unfold cutO
                  have em : min t ((d.ops.f m).data.size : Int) = t := by omega
                  rw [em, HE2.out])
                have t0 := T2.out
                have t3 : t ≤ ((d.ops.f m).data.size : Int) := by omega
                have OX := (OBH.out.setAt (i := 3) (.string ((d.ops.f m).data.extract 0 t.toNat)))
                have BX : Hid (Below wr.heap.size wr (V.setCell ⟨wr.heap.size, 3, none⟩ (.string ((d.ops.f m).data.extract 0 t.toNat)))) := hid (HB.out.setCell (Nat.le_refl _) _)
                rw [HE2.out] at OX
                change Blk _ _ (.cells #[.int .i64 1, .string (d.ops.f m).name, .string (d.ops.f m).to, .string ((d.ops.f m).data.extract 0 t.toNat)] _) at OX
                obtain ⟨y0, y1, y2, y3⟩ := OX.four
                clear e1
                go_wp2_with fail
                refine (CG.out _ _ _ _ _ BX.out EO.out).mono ?_
                rintro e w3 ⟨v, q, rfl, o3, hb3⟩
                obtain ⟨va, vc, rfl, Z3, A3, R3, B3⟩ := END.out _ _ _ BX.out o3 hb3
                clear o3 hb3 z0 z1 z2 z3 zf y0 y1 y2 y3 OX e1' e1''
                go_wp2
                go_roundw
                case rel => exact ⟨k + 1, va, vc, by omega, (by have h1 := HE1.out; first | go_num | exact congrArg (Value.int IntKind.i64) (by omega)), rfl, Z3, A3, R3, B3⟩
                case measure => simp [intOf]; omega
              · have EO : Hid (opK n g d.ops.f t k = ⟨1, (d.ops.f m).name, (d.ops.f m).to, (d.ops.f m).data⟩) := hid (by rw [OK0.out, if_pos e1, cutO_same (o := d.ops.f m) (t := t) (by omega), ← HE2.out])
                clear e1
                go_wp2_with fail
                refine (CG.out _ _ _ _ _ HB.out EO.out).mono ?_
                rintro e w3 ⟨v, q, rfl, o3, hb3⟩
                obtain ⟨va, vc, rfl, Z3, A3, R3, B3⟩ := END.out _ _ _ HB.out o3 hb3
                clear o3 hb3 z0 z1 z2 z3 zf e1' e1''
                go_wp2
                go_roundw
                case rel => exact ⟨k + 1, va, vc, by omega, (by have h1 := HE1.out; first | go_num | exact congrArg (Value.int IntKind.i64) (by omega)), rfl, Z3, A3, R3, B3⟩
                case measure => simp [intOf]; omega
            · have e2' : ((d.ops.f m).kind == 1) = false := by rw [beq_eq_false_iff_ne]; exact e2
              have EO : Hid (opK n g d.ops.f t k = d.ops.f m) := hid (by rw [OK0.out, if_pos e1, cutO_empty (DM.out e2)])
              clear e1
              go_wp2_with fail
              refine (CG.out _ _ _ _ _ HB.out EO.out).mono ?_
              rintro e w3 ⟨v, q, rfl, o3, hb3⟩
              obtain ⟨va, vc, rfl, Z3, A3, R3, B3⟩ := END.out _ _ _ HB.out o3 hb3
              clear o3 hb3 z0 z1 z2 z3 zf e1' e1'' e2 e2'
              go_wp2
              go_roundw
              case rel => exact ⟨k + 1, va, vc, by omega, (by have h1 := HE1.out; first | go_num | exact congrArg (Value.int IntKind.i64) (by omega)), rfl, Z3, A3, R3, B3⟩
              case measure => simp [intOf]; omega
          · have e1' : ¬ (k : Int) = (n : Int) - 1 := by omega
            have e1'' : ((k : Int) == (n : Int) - 1) = false := by rw [beq_eq_false_iff_ne]; exact e1'
            have EO : Hid (opK n g d.ops.f t k = d.ops.f m) := hid (by rw [OK0.out, if_neg e1])
            clear e1
            go_wp2_with fail
            refine (CG.out _ _ _ _ _ HB.out EO.out).mono ?_
            rintro e w3 ⟨v, q, rfl, o3, hb3⟩
            obtain ⟨va, vc, rfl, Z3, A3, R3, B3⟩ := END.out _ _ _ HB.out o3 hb3
            clear o3 hb3 z0 z1 z2 z3 zf e1' e1''
            go_wp2
            go_roundw
            case rel => exact ⟨k + 1, va, vc, by omega, by go_num, rfl, Z3, A3, R3, B3⟩
            case measure => simp [intOf]; omega
        · have ek : n = k := by omega
          subst ek
          have WK := WAY.out n (Nat.le_refl _)
          have hw := hid (way_data WK n2)
          have hl := hw.out.2.2
          have FL := hid (HZ.out.fileL (by omega) WK.wf)
          have C5 := hid (l11Files_any ⟨a, (runK n g d.ops.f t d.safe.toL n).length, c, fileAt (runK n g d.ops.f t d.safe.toL n)⟩ wr FL.out hw.out.2.1)
          unfold FileL.val at C5
          simp only at C5
          clear WK
          go_wp2_with fail
          refine C5.out.mono ?_
          rintro e w3 ⟨rfl, hb3⟩
          have A3 := A.below hb3
          have R3 := R.below hb3
          have B3 := then_ hB hb3
          have Z3 := hid (HZ.out.below hb3)
          have F3 := hid (FL.out.below hb3)
          clear C5 hb3 A R hB HZ FL
          cases t6 : fsOk (runK n g d.ops.f t d.safe.toL n).length (fileAt (runK n g d.ops.f t d.safe.toL n)) with
          | false =>
            have E := hid (NO.out (fun h => by have h1 := h.2.2.2; unfold okL at h1; rw [t6] at h1; cases h1))
            obtain ⟨r0, r1, r2⟩ := R3.three
            have rf := R3.warm
            go_wp2
            refine bodyPost_ret (cr_results _ _ (w.heap.size + 1) (.slice none 0 0) (.slice none 0 0) (.slice none 0 0) (.bool false) Try.results18 (R3.put3 _ _ _) rfl rfl) rfl ⟨_, _, _, by rw [E.out], ?_, ?_⟩
            · rw [E.out]
              exact AnsS.none _ _
            · exact set3_low B3 (by omega) _ _ _
          | true =>
            have E := hid (crA_yes ⟨T1.out, T2.out, KP.out, t6⟩)
            clear t6
            have bE : Below w3.heap.size w3 (w3.alloc (.cells #[] 72)) := (Below.refl _ w3).alloc (Nat.le_refl _) _
            have FS := hid (F3.out.below bE).2.1
            have HE := hid bE
            clear bE
            go_wp2_with (at_builtin; refine wpList_zeroF _ rfl _ _ rfl _ rfl a (runK n g d.ops.f t d.safe.toL n).length c (fileAt (runK n g d.ops.f t d.safe.toL n)) rfl FS.out (by omega) ?_; intro a5 c5 w5 z5 b5; have R5 := hid ((R3.below HE.out).below b5); obtain ⟨r0, r1, r2⟩ := R5.out.three; have rf := R5.out.warm)
            have B5 := then_ (then_ B3 HE.out) b5
            have Z5 := (Z3.out.below HE.out).below b5
            have Y5 := z5.base (then_ B3 HE.out).size
            rw [map_fileAt] at Y5
            refine bodyPost_ret (cr_results _ _ (w.heap.size + 1) (.slice a (runK n g d.ops.f t d.safe.toL n).length c) (.slice a5 (runK n g d.ops.f t d.safe.toL n).length c5) (.slice none 0 0) (.bool true) Try.results18 (R5.out.put3 _ _ _) rfl rfl) rfl ⟨_, _, _, by rw [E.out], ?_, ?_⟩
            · rw [E.out]
              exact AnsS.set3 ⟨Z5, Y5, .inl (OwnO.nil _ _)⟩ R5.out _ _ _
            · exact set3_low B5 (by omega) _ _ _
end Go.Proofs.Ytcdhhmedcplblaa
