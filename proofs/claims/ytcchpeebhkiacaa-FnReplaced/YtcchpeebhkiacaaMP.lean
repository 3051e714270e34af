/- Replace, the program. -/
import Derived.Test.YtcchpeebhkiacaaZJ
namespace Go.Proofs.Ytcchpeebhkiacaa
open Go Go.RowKit Go.Deep Go.Maps

/-- the state behind the first k ops -/
def runP (K : List OpV) (L : List FileV) (O : List OpV) : Nat → List FileV × List OpV
  | 0 => (L, O)
  | k + 1 => (stL (runP K L O k).1 (runP K L O k).2 (opAt K k), stO (runP K L O k).1 (runP K L O k).2 (opAt K k))
def cdP (K : List OpV) (L : List FileV) (O : List OpV) (k : Nat) : Int := cdL (runP K L O k).1 (runP K L O k).2.length (opAt K k)
theorem opAt_succ (o : OpV) (K : List OpV) (k : Nat) : opAt (o :: K) (k + 1) = opAt K k := by simp [opAt]
theorem runP_cons (o : OpV) (K : List OpV) (L : List FileV) (O : List OpV) : ∀ k, runP (o :: K) L O (k + 1) = runP K (stL L O o) (stO L O o) k
  | 0 => by simp [runP, opAt]
  | k + 1 => by rw [runP, runP_cons o K L O k, opAt_succ]; rfl
theorem cdP_cons (o : OpV) (K : List OpV) (L : List FileV) (O : List OpV) (k : Nat) : cdP (o :: K) L O (k + 1) = cdP K (stL L O o) (stO L O o) k := by unfold cdP; rw [runP_cons, opAt_succ]
theorem cdP_zero (o : OpV) (K : List OpV) (L : List FileV) (O : List OpV) : cdP (o :: K) L O 0 = cdL L O.length o := by simp [cdP, runP, opAt]
theorem runA_fail : ∀ (K : List OpV) (L : List FileV) (O : List OpV) (k : Nat), k < K.length → (∀ j, j < k → cdP K L O j = 0) → cdP K L O k ≠ 0 → runA K L O = ((runP K L O k).1, (runP K L O k).2, cdP K L O k)
  | [], _, _, k, h, _, _ => absurd h (Nat.not_lt_zero k)
  | o :: K, L, O, 0, _, _, hn => by rw [cdP_zero] at hn; rw [runA_no hn, cdP_zero]; rfl
  | o :: K, L, O, k + 1, h, hz, hn => by
    have h0 := hz 0 (by omega)
    rw [cdP_zero] at h0
    rw [runA_yes h0, runP_cons, cdP_cons]
    rw [cdP_cons] at hn
    exact runA_fail K _ _ k (by simpa using h) (fun j hj => by rw [← cdP_cons]; exact hz (j + 1) (by omega)) hn
theorem runA_all : ∀ (K : List OpV) (L : List FileV) (O : List OpV), (∀ j, j < K.length → cdP K L O j = 0) → runA K L O = ((runP K L O K.length).1, (runP K L O K.length).2, 0)
  | [], _, _, _ => rfl
  | o :: K, L, O, hz => by
    have h0 := hz 0 (by simp)
    rw [cdP_zero] at h0
    rw [runA_yes h0, List.length_cons, runP_cons]
    exact runA_all K _ _ (fun j hj => by rw [← cdP_cons]; exact hz (j + 1) (by simpa using hj))
theorem runP_good {K : List OpV} {L S : List FileV} {O : List OpV} {m : Nat} (g : GoodD L S O m) (hw : ∀ x ∈ K, x.wf ∧ x.data.size ≤ 1048576) : ∀ k, k ≤ K.length → GoodD (runP K L O k).1 S (runP K L O k).2 (m + k)
  | 0, _ => g
  | k + 1, h => by
    have := hw _ (opAt_mem (O := K) (show k < K.length by omega))
    exact (runP_good g hw k (by omega)).step this.1 this.2
theorem OplL.two {w : World} (x y : OpV) : OplL (w.alloc (.cells #[.int .i64 x.kind, .string x.name, .string x.to, .string x.data, .int .i64 y.kind, .string y.name, .string y.to, .string y.data] 36)) (some ⟨w.heap.size, 0, none⟩) [x, y] := fun _ =>
  ⟨_, 0, rfl, by simp, fun j u hu => by
    have hj : j = 0 ∨ j = 1 ∨ j = 2 ∨ j = 3 ∨ j = 4 ∨ j = 5 ∨ j = 6 ∨ j = 7 ∨ 8 ≤ j := by omega
    rcases hj with rfl | rfl | rfl | rfl | rfl | rfl | rfl | rfl | h
    all_goals first
      | (simp [cellsO, OpV.cs] at hu; subst hu; simp)
      | (have : (cellsO [x, y]).length ≤ j := by simpa [cellsO, OpV.cs] using h
         rw [List.getElem?_eq_none this] at hu
         cases hu)⟩
theorem rep_mem {L : List FileV} {s t : ByteArray} (hs : s.size ≤ 1048576) (ht : t.size ≤ 1048576) : (∀ x ∈ repOps L s t, x.wf ∧ x.data.size ≤ 1048576) ∧ 2 ≤ (repOps L s t).length ∧ (repOps L s t).length ≤ 3 := by
  obtain ⟨w1, w2, w3⟩ := rep_wf hs ht
  have z : (⟨#[]⟩ : ByteArray).size ≤ 1048576 := Nat.zero_le _
  unfold repOps
  split
  · refine ⟨fun x hx => ?_, by simp, by simp⟩
    simp only [List.cons_append, List.nil_append, List.mem_cons, List.not_mem_nil, or_false] at hx
    rcases hx with rfl | rfl | rfl
    · exact ⟨w1, z⟩
    · exact ⟨w2, ht⟩
    · exact ⟨w3, z⟩
  · refine ⟨fun x hx => ?_, by simp, by simp⟩
    simp only [List.nil_append, List.mem_cons, List.not_mem_nil, or_false] at hx
    rcases hx with rfl | rfl
    · exact ⟨w2, ht⟩
    · exact ⟨w3, z⟩

set_option maxRecDepth 100000 in
set_option maxHeartbeats 16000000 in
theorem implReplace_any (d : DiskV) (s t : ByteArray) (w : World) (hd : d.at w) (hs : d.sz ≤ 1048576) (h1 : s.size ≤ 1048576) (h2 : t.size ≤ 1048576) :
    Calls Try.prog 18 #[d.val, .string s, .string t] w fun e w' => ∃ vl vs vo, e = .returned (.tuple #[.agg #[vl, vs, vo], .int .i64 (repA d s t).2.2.2]) ∧ AnsI w' w.heap.size vl vs vo (repA d s t).1 (repA d s t).2.1 (repA d s t).2.2.1 ∧ Below w.heap.size w w' := by
  have eL := toL_len d.live
  have eS := toL_len d.safe
  have eO := OpL.toL_len d.ops
  obtain ⟨A0, R0, b0⟩ := two_boxes w (.cells #[.slice d.live.a d.live.toL.length d.live.k, .slice d.safe.a d.safe.toL.length d.safe.k, .slice d.ops.a d.ops.toL.length d.ops.k] 27) (.cells #[.slice none 0 0, .slice none 0 0, .slice none 0 0] 27)
  have HD := hid hd
  have RM := hid (rep_mem (L := d.live.toL) h1 h2)
  have EF := hid (show (⟨#[46, 110, 101, 119]⟩ : ByteArray) = dotNew from rfl)
  have C1 := hid (implDisk_any d _ (hd.below b0) hs)
  unfold DiskV.val at C1 ⊢
  rw [← eL, ← eS, ← eO] at C1 ⊢
  have CA : Hid (∀ W, Below w.heap.size w W → Calls Try.prog 41 #[.slice d.live.a d.live.toL.length d.live.k, .string (s ++ dotNew)] W fun e w' => e = .returned (.bool (lookL d.live.toL (key (s ++ dotNew))).isSome) ∧ Below W.heap.size W w') := hid (fun W hW => by
    have h := hasFile_any d.live (s ++ dotNew) W (HD.out.1.below hW)
    unfold FileL.val at h
    rw [lookF_L, ← eL] at h
    exact h)
  have GD : Hid (dkOk d = true → GoodD d.live.toL d.safe.toL d.ops.toL 200) := hid (fun hk => dkOk_good HD.out hk)
  have DD : Hid (∀ W, Below w.heap.size w W → DAt W (.slice d.live.a d.live.toL.length d.live.k) (.slice d.safe.a d.safe.toL.length d.safe.k) (.slice d.ops.a d.ops.toL.length d.ops.k) d.live.toL.length d.safe.toL.length d.ops.toL.length (fileAt d.live.toL) (fileAt d.safe.toL) (opAt d.ops.toL)) := hid (fun W hW => DiskV.datL (HD.out.below hW))
  have zn : ¬ 9223372036854775807 < s.size + 4 := by omega
  have zn2 : ¬ (9223372036854775807 : Int) < (s.size : Int) + 4 := by omega
  obtain ⟨x0, x1, x2⟩ := A0.three
  obtain ⟨r0, r1, r2⟩ := R0.three
  have rf := R0.warm
  clear hd hs eL eS eO
  go_enter Try.func18, Try.ntmps18
  go_wp2_with fail
  refine C1.out.mono ?_
  rintro e w1 ⟨rfl, hb1⟩
  have A1 := A0.below hb1
  have R1 := R0.below hb1
  have B1 := then_ b0 hb1
  clear x0 x1 x2 r0 r1 r2 rf C1 A0 R0 b0 hb1
  cases t1 : dkOk d with
  | false =>
    have E : Hid (repA d s t = ([], [], [], 1)) := hid (by rw [repA, if_neg (by rw [t1]; decide)])
    obtain ⟨r0, r1, r2⟩ := R1.three
    have rf := R1.warm
    clear zn zn2
    go_wp2
    refine bodyPost_ret (rep_results _ _ (w.heap.size + 1) (.slice none 0 0) (.slice none 0 0) (.slice none 0 0) (.int .i64 1) Try.results18 (R1.set3 _ _ _) rfl rfl) rfl ⟨_, _, _, by rw [E.out], ?_, ?_⟩
    · rw [E.out]
      exact AnsI.none _ _
    · exact set3_below B1 (by omega) _ _ _
  | true =>
  have G0 := hid (GD.out t1)
  have E0 : Hid (∀ x, runA (repOps d.live.toL s t) d.live.toL d.ops.toL = x → repA d s t = (if x.2.2 = 0 then (x.1, d.safe.toL, x.2.1, 0) else (d.live.toL, d.safe.toL, d.ops.toL, x.2.2))) := hid (fun x hx => by rw [repA, if_pos t1, hx])
  obtain ⟨x0, x1, x2⟩ := A1.three
  clear t1
  go_wp2_with fail
  rw [EF.out]
  clear zn zn2
  refine (CA.out _ B1).mono ?_
  rintro e w2 ⟨rfl, hb⟩
  have A2 := A1.below hb
  have R2 := R1.below hb
  have B2 := then_ B1 hb
  clear x0 x1 x2 A1 R1 B1 hb
  have z2 := B2.size
  have lR : w.heap.size + 1 < w2.heap.size := R2.lt
  cases hh : (lookL d.live.toL (key (s ++ dotNew))).isSome with
  | true =>
    have HO : Hid ((repOps d.live.toL s t) = [⟨3, (s ++ dotNew), ⟨#[]⟩, ⟨#[]⟩⟩] ++ [⟨1, (s ++ dotNew), ⟨#[]⟩, t⟩, ⟨2, (s ++ dotNew), s, ⟨#[]⟩⟩]) := hid (by unfold repOps; rw [if_pos hh])
    have b1 : Below w2.heap.size w2 (w2.alloc (.cells #[.int .i64 3, .string (s ++ dotNew), .string ⟨#[]⟩, .string ⟨#[]⟩] 36)) := (Below.refl _ w2).alloc (Nat.le_refl _) _
    have ld1 : ([⟨3, (s ++ dotNew), ⟨#[]⟩, ⟨#[]⟩⟩] : List OpV).length ≤ 2000000 := by simp
    have ld3 : ([⟨3, (s ++ dotNew), ⟨#[]⟩, ⟨#[]⟩⟩] ++ [⟨1, (s ++ dotNew), ⟨#[]⟩, t⟩, ⟨2, (s ++ dotNew), s, ⟨#[]⟩⟩] : List OpV).length ≤ 2000000 := by simp
    have l1 := OplL.one (w := w2) ⟨3, (s ++ dotNew), ⟨#[]⟩, ⟨#[]⟩⟩
    simp only at l1
    have L1 := hid l1
    clear l1
    have s1 := b1.size
    clear hh
    go_wp2_with (first
      | (at_builtin; have mq := L1; refine wpList_append_ops _ rfl _ _ rfl w2.heap.size (.slice none 0 0) [] rfl (OwnO.nil _ _) _ _ _ [⟨3, (s ++ dotNew), ⟨#[]⟩, ⟨#[]⟩⟩] rfl rfl L1.out [⟨3, (s ++ dotNew), ⟨#[]⟩, ⟨#[]⟩⟩] rfl ld1 s1 ?_; intro a5 c5 w5 o5 q5 h5; have K5 : Hid (Below w2.heap.size w2 w5) := hid (b1.trans (below_grown q5 s1 (fun j e => by cases e))); have O5 := hid o5; have b6 : Below w5.heap.size w5 (w5.alloc (.cells #[.int .i64 1, .string (s ++ dotNew), .string ⟨#[]⟩, .string t, .int .i64 2, .string (s ++ dotNew), .string s, .string ⟨#[]⟩] 36)) := (Below.refl _ w5).alloc (Nat.le_refl _) _; have O6 := hid (OwnO.below o5 b6); have l6 := OplL.two (w := w5) ⟨1, (s ++ dotNew), ⟨#[]⟩, t⟩ ⟨2, (s ++ dotNew), s, ⟨#[]⟩⟩; simp only at l6; have L6 := hid l6; clear l6; have s6 := Nat.le_trans K5.out.size b6.size; clear L1 mq o5 q5 h5)
      | (at_builtin; refine wpList_append_ops _ rfl _ _ rfl w2.heap.size (.slice a5 1 c5) [⟨3, (s ++ dotNew), ⟨#[]⟩, ⟨#[]⟩⟩] rfl O6.out _ _ _ [⟨1, (s ++ dotNew), ⟨#[]⟩, t⟩, ⟨2, (s ++ dotNew), s, ⟨#[]⟩⟩] rfl rfl L6.out ([⟨3, (s ++ dotNew), ⟨#[]⟩, ⟨#[]⟩⟩] ++ [⟨1, (s ++ dotNew), ⟨#[]⟩, t⟩, ⟨2, (s ++ dotNew), s, ⟨#[]⟩⟩]) rfl ld3 s6 ?_; intro a7 c7 V o7 q7 h7; have KV : Hid (Below w2.heap.size w2 V) := hid ((K5.out.trans (b6.mono K5.out.size)).trans (below_grown q7 s6 (fun j e => (World.ownsRow.lt O6.out j e).1))); have OV : Hid (OwnO V w2.heap.size (.slice a7 3 c7) (repOps d.live.toL s t)) := hid (by rw [HO.out]; exact o7); have LK : Hid ((repOps d.live.toL s t).length = 3) := hid (by rw [HO.out]; rfl); obtain ⟨x0, x1, x2⟩ := (A2.below KV.out).three; clear o7 q7 h7))
    clear x0 x1 x2
    have AV := A2.below KV.out
    have RV := R2.below KV.out
    have BV := then_ B2 KV.out
    have bn : Below V.heap.size V (V.alloc (.cells #[.slice d.live.a d.live.toL.length d.live.k, .slice d.safe.a d.safe.toL.length d.safe.k, .slice d.ops.a d.ops.toL.length d.ops.k] 27)) := (Below.refl _ V).alloc (Nat.le_refl _) _
    have N0 := Blk.new V (.cells #[.slice d.live.a d.live.toL.length d.live.k, .slice d.safe.a d.safe.toL.length d.safe.k, .slice d.ops.a d.ops.toL.length d.ops.k] 27)
    have A3 := hid (AV.below bn)
    have R3 := hid (RV.below bn)
    have B3 := hid (then_ BV bn)
    have O3 := hid (OV.out.below bn)
    have N3 := hid N0
    have D3 := hid (DD.out _ B3.out)
    have lV : w.heap.size + 1 < V.heap.size := RV.lt
    clear AV RV BV bn N0 OV KV A2 R2 z2
    go_loopw [42] (fun i wr => ∃ (k : Nat) (pl ps po : Option Addr) (px py pz : Nat), k ≤ 3 ∧ i = .int .i64 k ∧ (∀ j, j < k → cdP (repOps d.live.toL s t) d.live.toL d.ops.toL j = 0) ∧ Blk wr V.heap.size (.cells #[.slice pl (runP (repOps d.live.toL s t) d.live.toL d.ops.toL k).1.length px, .slice ps d.safe.toL.length py, .slice po (runP (repOps d.live.toL s t) d.live.toL d.ops.toL k).2.length pz] 27) ∧ DAt wr (.slice pl (runP (repOps d.live.toL s t) d.live.toL d.ops.toL k).1.length px) (.slice ps d.safe.toL.length py) (.slice po (runP (repOps d.live.toL s t) d.live.toL d.ops.toL k).2.length pz) (runP (repOps d.live.toL s t) d.live.toL d.ops.toL k).1.length d.safe.toL.length (runP (repOps d.live.toL s t) d.live.toL d.ops.toL k).2.length (fileAt (runP (repOps d.live.toL s t) d.live.toL d.ops.toL k).1) (fileAt d.safe.toL) (opAt (runP (repOps d.live.toL s t) d.live.toL d.ops.toL k).2) ∧ (0 < k → AnsI wr w.heap.size (.slice pl (runP (repOps d.live.toL s t) d.live.toL d.ops.toL k).1.length px) (.slice ps d.safe.toL.length py) (.slice po (runP (repOps d.live.toL s t) d.live.toL d.ops.toL k).2.length pz) (runP (repOps d.live.toL s t) d.live.toL d.ops.toL k).1 d.safe.toL (runP (repOps d.live.toL s t) d.live.toL d.ops.toL k).2) ∧ Blk wr w.heap.size (.cells #[.slice d.live.a d.live.toL.length d.live.k, .slice d.safe.a d.safe.toL.length d.safe.k, .slice d.ops.a d.ops.toL.length d.ops.k] 27) ∧ Blk wr (w.heap.size + 1) (.cells #[.slice none 0 0, .slice none 0 0, .slice none 0 0] 27) ∧ OwnO wr w2.heap.size (.slice a7 3 c7) (repOps d.live.toL s t) ∧ Below w.heap.size w wr) (fun i _ => 3 - (intOf i).toNat)
    case atStart => exact ⟨0, _, _, _, _, _, _, Nat.zero_le _, rfl, fun j hj => absurd hj (Nat.not_lt_zero j), N3.out, D3.out, fun h => absurd h (Nat.lt_irrefl 0), A3.out, R3.out, O3.out, B3.out⟩
    case round =>
      clear N3 D3 A3 R3 O3 B3
      obtain ⟨k, pl, ps, po, px, py, pz, hk, rfl, hz, N, D, AN, A, R, OO, B⟩ := hrel
      have HZ := hid hz
      have HDk := hid D
      have HAN := hid AN
      have HOO := hid OO
      clear hz D AN OO
      by_cases hlt : k < 3
      · have hltK : k < (repOps d.live.toL s t).length := by rw [LK.out]; exact hlt
        have HO2 : Hid (OwnO wr w2.heap.size (.slice a7 (repOps d.live.toL s t).length c7) (repOps d.live.toL s t)) := hid (by rw [LK.out]; exact HOO.out)
        obtain ⟨b, off, ea, hb', hcc⟩ := HO2.out.lies.ops (by omega)
        obtain ⟨g0, g1, g2, g3⟩ := hcc k hltK
        have i0 : (0 : Int) ≤ (k : Int) := by omega
        have i1 : (k : Int) < (3 : Int) := by omega
        have ow := RM.out.1 _ (opAt_mem hltK)
        have GG := hid (runP_good (K := (repOps d.live.toL s t)) G0.out RM.out.1 k (by omega))
        have EP1 : Hid ((runP (repOps d.live.toL s t) d.live.toL d.ops.toL (k + 1)) = (stL (runP (repOps d.live.toL s t) d.live.toL d.ops.toL k).1 (runP (repOps d.live.toL s t) d.live.toL d.ops.toL k).2 (opAt (repOps d.live.toL s t) k), stO (runP (repOps d.live.toL s t) d.live.toL d.ops.toL k).1 (runP (repOps d.live.toL s t) d.live.toL d.ops.toL k).2 (opAt (repOps d.live.toL s t) k))) := hid rfl
        have EC : Hid (cdP (repOps d.live.toL s t) d.live.toL d.ops.toL k = cdL (runP (repOps d.live.toL s t) d.live.toL d.ops.toL k).1 (runP (repOps d.live.toL s t) d.live.toL d.ops.toL k).2.length (opAt (repOps d.live.toL s t) k)) := hid rfl
        have RF := hid (runA_fail (repOps d.live.toL s t) d.live.toL d.ops.toL k hltK HZ.out)
        generalize opAt (repOps d.live.toL s t) k = oo at *
        subst ea
        have bo : Below wr.heap.size wr (wr.alloc (.cells #[.int .i64 oo.kind, .string oo.name, .string oo.to, .string oo.data] 36)) := (Below.refl _ wr).alloc (Nat.le_refl _) _
        have N1 := N.below bo
        have A1' := A.below bo
        have R1' := R.below bo
        have B1' := then_ B bo
        have D1 := hid (HDk.out.below bo)
        have OO1 := hid (HOO.out.below bo)
        obtain ⟨n0, n1, n2⟩ := N1.three
        have nf := N1.warm
        obtain ⟨m0, m1, m2⟩ := N.three
        have CN := hid (implAct_L (runP (repOps d.live.toL s t) d.live.toL d.ops.toL k).1 d.safe.toL (runP (repOps d.live.toL s t) d.live.toL d.ops.toL k).2 (200 + k) GG.out (by omega) pl ps po px py pz oo ow.1 ow.2 _ D1.out)
        have lN : V.heap.size < wr.heap.size := N.lt
        have lN1 : wr.heap.size ≤ (wr.alloc (.cells #[.int .i64 oo.kind, .string oo.name, .string oo.to, .string oo.data] 36)).heap.size := bo.size
        clear hcc N A R B bo HO2 HOO HDk
        go_wp2_with fail
        refine CN.out.mono ?_
        rintro e v1 ⟨bl, bs, bq, bx, by_, bz, rfl, hA, hb⟩
        have N2 := N1.below hb
        have A2 := A1'.below hb
        have R2 := R1'.below hb
        have B2' := then_ B1' hb
        have HA := hid (hA.base B1'.size)
        have OO2 := hid (OO1.out.below hb)
        have lv : V.heap.size < v1.heap.size := Nat.lt_of_lt_of_le (Nat.lt_of_lt_of_le lN lN1) hb.size
        have nv : ¬ V.heap.size = v1.heap.size := by omega
        have bxx : Below v1.heap.size v1 (v1.alloc (.cells #[.slice bl (stL (runP (repOps d.live.toL s t) d.live.toL d.ops.toL k).1 (runP (repOps d.live.toL s t) d.live.toL d.ops.toL k).2 oo).length bx, .slice bs d.safe.toL.length by_, .slice bq (stO (runP (repOps d.live.toL s t) d.live.toL d.ops.toL k).1 (runP (repOps d.live.toL s t) d.live.toL d.ops.toL k).2 oo).length bz] 27)) := (Below.refl _ v1).alloc (Nat.le_refl _) _
        clear n0 n1 n2 nf m0 m1 m2 g0 g1 g2 g3 CN hA hb N1 A1' R1' B1' D1 OO1
        obtain ⟨x0, x1, x2⟩ := A2.three
        obtain ⟨y0, y1, y2⟩ := (A2.below bxx).three
        obtain ⟨n0, n1, n2⟩ := N2.three
        have nf := N2.warm
        by_cases cz : cdL (runP (repOps d.live.toL s t) d.live.toL d.ops.toL k).1 (runP (repOps d.live.toL s t) d.live.toL d.ops.toL k).2.length oo = 0
        · have HZ2 : Hid (∀ j, j < k + 1 → cdP (repOps d.live.toL s t) d.live.toL d.ops.toL j = 0) := hid (fun j hj => by
            by_cases e : j = k
            · rw [e, EC.out]; exact cz
            · exact HZ.out j (by omega))
          have HE : Hid (AnsI _ w.heap.size _ _ _ _ _ _) := hid ((HA.out.set3 N2 (.slice bl (stL (runP (repOps d.live.toL s t) d.live.toL d.ops.toL k).1 (runP (repOps d.live.toL s t) d.live.toL d.ops.toL k).2 oo).length bx) (.slice bs d.safe.toL.length by_) (.slice bq (stO (runP (repOps d.live.toL s t) d.live.toL d.ops.toL k).1 (runP (repOps d.live.toL s t) d.live.toL d.ops.toL k).2 oo).length bz)).below ((Below.refl _ _).alloc (Nat.le_refl _) (.cells #[.slice bl (stL (runP (repOps d.live.toL s t) d.live.toL d.ops.toL k).1 (runP (repOps d.live.toL s t) d.live.toL d.ops.toL k).2 oo).length bx, .slice bs d.safe.toL.length by_, .slice bq (stO (runP (repOps d.live.toL s t) d.live.toL d.ops.toL k).1 (runP (repOps d.live.toL s t) d.live.toL d.ops.toL k).2 oo).length bz] 27)))
          have HN := hid ((N2.set3 (.slice bl (stL (runP (repOps d.live.toL s t) d.live.toL d.ops.toL k).1 (runP (repOps d.live.toL s t) d.live.toL d.ops.toL k).2 oo).length bx) (.slice bs d.safe.toL.length by_) (.slice bq (stO (runP (repOps d.live.toL s t) d.live.toL d.ops.toL k).1 (runP (repOps d.live.toL s t) d.live.toL d.ops.toL k).2 oo).length bz)).alloc (.cells #[.slice bl (stL (runP (repOps d.live.toL s t) d.live.toL d.ops.toL k).1 (runP (repOps d.live.toL s t) d.live.toL d.ops.toL k).2 oo).length bx, .slice bs d.safe.toL.length by_, .slice bq (stO (runP (repOps d.live.toL s t) d.live.toL d.ops.toL k).1 (runP (repOps d.live.toL s t) d.live.toL d.ops.toL k).2 oo).length bz] 27))
          have HAx := hid ((A2.other3 (Q := V.heap.size) (by omega) (.slice bl (stL (runP (repOps d.live.toL s t) d.live.toL d.ops.toL k).1 (runP (repOps d.live.toL s t) d.live.toL d.ops.toL k).2 oo).length bx) (.slice bs d.safe.toL.length by_) (.slice bq (stO (runP (repOps d.live.toL s t) d.live.toL d.ops.toL k).1 (runP (repOps d.live.toL s t) d.live.toL d.ops.toL k).2 oo).length bz)).alloc (.cells #[.slice bl (stL (runP (repOps d.live.toL s t) d.live.toL d.ops.toL k).1 (runP (repOps d.live.toL s t) d.live.toL d.ops.toL k).2 oo).length bx, .slice bs d.safe.toL.length by_, .slice bq (stO (runP (repOps d.live.toL s t) d.live.toL d.ops.toL k).1 (runP (repOps d.live.toL s t) d.live.toL d.ops.toL k).2 oo).length bz] 27))
          have HRx := hid ((R2.other3 (Q := V.heap.size) (by omega) (.slice bl (stL (runP (repOps d.live.toL s t) d.live.toL d.ops.toL k).1 (runP (repOps d.live.toL s t) d.live.toL d.ops.toL k).2 oo).length bx) (.slice bs d.safe.toL.length by_) (.slice bq (stO (runP (repOps d.live.toL s t) d.live.toL d.ops.toL k).1 (runP (repOps d.live.toL s t) d.live.toL d.ops.toL k).2 oo).length bz)).alloc (.cells #[.slice bl (stL (runP (repOps d.live.toL s t) d.live.toL d.ops.toL k).1 (runP (repOps d.live.toL s t) d.live.toL d.ops.toL k).2 oo).length bx, .slice bs d.safe.toL.length by_, .slice bq (stO (runP (repOps d.live.toL s t) d.live.toL d.ops.toL k).1 (runP (repOps d.live.toL s t) d.live.toL d.ops.toL k).2 oo).length bz] 27))
          have HOx := hid (OwnO.below (own_setO (own_setO (own_setO OO2.out N2 (.slice bl (stL (runP (repOps d.live.toL s t) d.live.toL d.ops.toL k).1 (runP (repOps d.live.toL s t) d.live.toL d.ops.toL k).2 oo).length bx) (i := 0)) (N2.setAt (i := 0) (.slice bl (stL (runP (repOps d.live.toL s t) d.live.toL d.ops.toL k).1 (runP (repOps d.live.toL s t) d.live.toL d.ops.toL k).2 oo).length bx)) (.slice bs d.safe.toL.length by_) (i := 1)) ((N2.setAt (i := 0) (.slice bl (stL (runP (repOps d.live.toL s t) d.live.toL d.ops.toL k).1 (runP (repOps d.live.toL s t) d.live.toL d.ops.toL k).2 oo).length bx)).setAt (i := 1) (.slice bs d.safe.toL.length by_)) (.slice bq (stO (runP (repOps d.live.toL s t) d.live.toL d.ops.toL k).1 (runP (repOps d.live.toL s t) d.live.toL d.ops.toL k).2 oo).length bz) (i := 2)) ((Below.refl _ _).alloc (Nat.le_refl _) (.cells #[.slice bl (stL (runP (repOps d.live.toL s t) d.live.toL d.ops.toL k).1 (runP (repOps d.live.toL s t) d.live.toL d.ops.toL k).2 oo).length bx, .slice bs d.safe.toL.length by_, .slice bq (stO (runP (repOps d.live.toL s t) d.live.toL d.ops.toL k).1 (runP (repOps d.live.toL s t) d.live.toL d.ops.toL k).2 oo).length bz] 27)))
          have HBx := hid ((set3_below B2' (show w.heap.size ≤ V.heap.size by omega) (.slice bl (stL (runP (repOps d.live.toL s t) d.live.toL d.ops.toL k).1 (runP (repOps d.live.toL s t) d.live.toL d.ops.toL k).2 oo).length bx) (.slice bs d.safe.toL.length by_) (.slice bq (stO (runP (repOps d.live.toL s t) d.live.toL d.ops.toL k).1 (runP (repOps d.live.toL s t) d.live.toL d.ops.toL k).2 oo).length bz)).alloc (by simp only [nblk_setCell]; exact B2'.size) (.cells #[.slice bl (stL (runP (repOps d.live.toL s t) d.live.toL d.ops.toL k).1 (runP (repOps d.live.toL s t) d.live.toL d.ops.toL k).2 oo).length bx, .slice bs d.safe.toL.length by_, .slice bq (stO (runP (repOps d.live.toL s t) d.live.toL d.ops.toL k).1 (runP (repOps d.live.toL s t) d.live.toL d.ops.toL k).2 oo).length bz] 27))
          rw [cz]
          clear cz EC RF HA OO2 HAN
          go_wp2
          go_roundw
          case rel =>
            refine ⟨k + 1, bl, bs, bq, bx, by_, bz, by omega, by go_num, HZ2.out, ?_⟩
            rw [EP1.out]
            exact ⟨HN.out, HE.out.dat, fun _ => HE.out, HAx.out, HRx.out, HOx.out, HBx.out⟩
          case measure => simp [intOf]; omega
        · obtain ⟨kk, hkk⟩ : ∃ kk, kk = cdL (runP (repOps d.live.toL s t) d.live.toL d.ops.toL k).1 (runP (repOps d.live.toL s t) d.live.toL d.ops.toL k).2.length oo := ⟨_, rfl⟩
          have ER : Hid (repA d s t = (d.live.toL, d.safe.toL, d.ops.toL, kk)) := hid (by
            have hrun := RF.out (by rw [EC.out]; exact cz)
            rw [E0.out _ hrun, EC.out, ← hkk, if_neg (by rw [hkk]; exact cz)])
          have kb : (kk == 0) = false := by rw [hkk]; exact beq_eq_false_iff_ne.2 cz
          have Bw := then_ B2' bxx
          have Rw := R2.below bxx
          rw [← hkk]
          clear hkk cz EC RF HA OO2 HAN
          go_wp2_with fail
          refine (implCopy_L d.live.toL d.safe.toL d.ops.toL 200 G0.out (by omega) _ _ _ _ _ _ _ (DD.out _ Bw)).mono ?_
          rintro e vz ⟨zl, zs, zo, zx, zy, zz, rfl, hA, hb⟩
          have Rz := Rw.below hb
          have Bz := then_ Bw hb
          have HZz := hid (hA.base Bw.size)
          clear x0 x1 x2 y0 y1 y2 n0 n1 n2 nf hA hb
          obtain ⟨r0, r1, r2⟩ := Rz.three
          have rf := Rz.warm
          go_wp2
          refine bodyPost_ret (rep_results _ _ (w.heap.size + 1) _ _ _ (.int .i64 kk) Try.results18 (Rz.set3 _ _ _) rfl rfl) rfl ⟨_, _, _, by rw [ER.out], ?_, ?_⟩
          · rw [ER.out]
            exact HZz.out.set3 Rz _ _ _
          · exact set3_below Bz (by omega) _ _ _
      · obtain rfl : k = 3 := by omega
        have ER : Hid (repA d s t = ((runP (repOps d.live.toL s t) d.live.toL d.ops.toL 3).1, d.safe.toL, (runP (repOps d.live.toL s t) d.live.toL d.ops.toL 3).2, 0)) := hid (by
          have hrun := runA_all (repOps d.live.toL s t) d.live.toL d.ops.toL (by rw [LK.out]; exact HZ.out)
          rw [LK.out] at hrun
          rw [E0.out _ hrun, if_pos rfl])
        have HE := hid (HAN.out (by omega))
        obtain ⟨n0, n1, n2⟩ := N.three
        obtain ⟨r0, r1, r2⟩ := R.three
        have rf := R.warm
        go_wp2
        refine bodyPost_ret (rep_results _ _ (w.heap.size + 1) _ _ _ (.int .i64 0) Try.results18 (R.set3 _ _ _) rfl rfl) rfl ⟨_, _, _, by rw [ER.out], ?_, ?_⟩
        · rw [ER.out]
          exact HE.out.set3 R _ _ _
        · exact set3_below B (by omega) _ _ _
    
  | false =>
    have HO : Hid ((repOps d.live.toL s t) = [⟨1, (s ++ dotNew), ⟨#[]⟩, t⟩, ⟨2, (s ++ dotNew), s, ⟨#[]⟩⟩]) := hid (by unfold repOps; rw [if_neg (by rw [hh]; decide)]; rfl)
    have b6 : Below w2.heap.size w2 (w2.alloc (.cells #[.int .i64 1, .string (s ++ dotNew), .string ⟨#[]⟩, .string t, .int .i64 2, .string (s ++ dotNew), .string s, .string ⟨#[]⟩] 36)) := (Below.refl _ w2).alloc (Nat.le_refl _) _
    have l6 := OplL.two (w := w2) ⟨1, (s ++ dotNew), ⟨#[]⟩, t⟩ ⟨2, (s ++ dotNew), s, ⟨#[]⟩⟩
    simp only at l6
    have L6 := hid l6
    clear l6
    have s6 := b6.size
    have ld2 : ([⟨1, (s ++ dotNew), ⟨#[]⟩, t⟩, ⟨2, (s ++ dotNew), s, ⟨#[]⟩⟩] : List OpV).length ≤ 2000000 := by simp
    clear hh
    go_wp2_with (at_builtin; refine wpList_append_ops _ rfl _ _ rfl w2.heap.size (.slice none 0 0) [] rfl (OwnO.nil _ _) _ _ _ [⟨1, (s ++ dotNew), ⟨#[]⟩, t⟩, ⟨2, (s ++ dotNew), s, ⟨#[]⟩⟩] rfl rfl L6.out [⟨1, (s ++ dotNew), ⟨#[]⟩, t⟩, ⟨2, (s ++ dotNew), s, ⟨#[]⟩⟩] rfl ld2 s6 ?_; intro a7 c7 V o7 q7 h7; have KV : Hid (Below w2.heap.size w2 V) := hid (b6.trans (below_grown q7 s6 (fun j e => by cases e))); have OV : Hid (OwnO V w2.heap.size (.slice a7 2 c7) (repOps d.live.toL s t)) := hid (by rw [HO.out]; exact o7); have LK : Hid ((repOps d.live.toL s t).length = 2) := hid (by rw [HO.out]; rfl); obtain ⟨x0, x1, x2⟩ := (A2.below KV.out).three; clear o7 q7 h7)
    clear x0 x1 x2
    have AV := A2.below KV.out
    have RV := R2.below KV.out
    have BV := then_ B2 KV.out
    have bn : Below V.heap.size V (V.alloc (.cells #[.slice d.live.a d.live.toL.length d.live.k, .slice d.safe.a d.safe.toL.length d.safe.k, .slice d.ops.a d.ops.toL.length d.ops.k] 27)) := (Below.refl _ V).alloc (Nat.le_refl _) _
    have N0 := Blk.new V (.cells #[.slice d.live.a d.live.toL.length d.live.k, .slice d.safe.a d.safe.toL.length d.safe.k, .slice d.ops.a d.ops.toL.length d.ops.k] 27)
    have A3 := hid (AV.below bn)
    have R3 := hid (RV.below bn)
    have B3 := hid (then_ BV bn)
    have O3 := hid (OV.out.below bn)
    have N3 := hid N0
    have D3 := hid (DD.out _ B3.out)
    have lV : w.heap.size + 1 < V.heap.size := RV.lt
    clear AV RV BV bn N0 OV KV A2 R2 z2
    go_loopw [42] (fun i wr => ∃ (k : Nat) (pl ps po : Option Addr) (px py pz : Nat), k ≤ 2 ∧ i = .int .i64 k ∧ (∀ j, j < k → cdP (repOps d.live.toL s t) d.live.toL d.ops.toL j = 0) ∧ Blk wr V.heap.size (.cells #[.slice pl (runP (repOps d.live.toL s t) d.live.toL d.ops.toL k).1.length px, .slice ps d.safe.toL.length py, .slice po (runP (repOps d.live.toL s t) d.live.toL d.ops.toL k).2.length pz] 27) ∧ DAt wr (.slice pl (runP (repOps d.live.toL s t) d.live.toL d.ops.toL k).1.length px) (.slice ps d.safe.toL.length py) (.slice po (runP (repOps d.live.toL s t) d.live.toL d.ops.toL k).2.length pz) (runP (repOps d.live.toL s t) d.live.toL d.ops.toL k).1.length d.safe.toL.length (runP (repOps d.live.toL s t) d.live.toL d.ops.toL k).2.length (fileAt (runP (repOps d.live.toL s t) d.live.toL d.ops.toL k).1) (fileAt d.safe.toL) (opAt (runP (repOps d.live.toL s t) d.live.toL d.ops.toL k).2) ∧ (0 < k → AnsI wr w.heap.size (.slice pl (runP (repOps d.live.toL s t) d.live.toL d.ops.toL k).1.length px) (.slice ps d.safe.toL.length py) (.slice po (runP (repOps d.live.toL s t) d.live.toL d.ops.toL k).2.length pz) (runP (repOps d.live.toL s t) d.live.toL d.ops.toL k).1 d.safe.toL (runP (repOps d.live.toL s t) d.live.toL d.ops.toL k).2) ∧ Blk wr w.heap.size (.cells #[.slice d.live.a d.live.toL.length d.live.k, .slice d.safe.a d.safe.toL.length d.safe.k, .slice d.ops.a d.ops.toL.length d.ops.k] 27) ∧ Blk wr (w.heap.size + 1) (.cells #[.slice none 0 0, .slice none 0 0, .slice none 0 0] 27) ∧ OwnO wr w2.heap.size (.slice a7 2 c7) (repOps d.live.toL s t) ∧ Below w.heap.size w wr) (fun i _ => 2 - (intOf i).toNat)
    case atStart => exact ⟨0, _, _, _, _, _, _, Nat.zero_le _, rfl, fun j hj => absurd hj (Nat.not_lt_zero j), N3.out, D3.out, fun h => absurd h (Nat.lt_irrefl 0), A3.out, R3.out, O3.out, B3.out⟩
    case round =>
      clear N3 D3 A3 R3 O3 B3
      obtain ⟨k, pl, ps, po, px, py, pz, hk, rfl, hz, N, D, AN, A, R, OO, B⟩ := hrel
      have HZ := hid hz
      have HDk := hid D
      have HAN := hid AN
      have HOO := hid OO
      clear hz D AN OO
      by_cases hlt : k < 2
      · have hltK : k < (repOps d.live.toL s t).length := by rw [LK.out]; exact hlt
        have HO2 : Hid (OwnO wr w2.heap.size (.slice a7 (repOps d.live.toL s t).length c7) (repOps d.live.toL s t)) := hid (by rw [LK.out]; exact HOO.out)
        obtain ⟨b, off, ea, hb', hcc⟩ := HO2.out.lies.ops (by omega)
        obtain ⟨g0, g1, g2, g3⟩ := hcc k hltK
        have i0 : (0 : Int) ≤ (k : Int) := by omega
        have i1 : (k : Int) < (2 : Int) := by omega
        have ow := RM.out.1 _ (opAt_mem hltK)
        have GG := hid (runP_good (K := (repOps d.live.toL s t)) G0.out RM.out.1 k (by omega))
        have EP1 : Hid ((runP (repOps d.live.toL s t) d.live.toL d.ops.toL (k + 1)) = (stL (runP (repOps d.live.toL s t) d.live.toL d.ops.toL k).1 (runP (repOps d.live.toL s t) d.live.toL d.ops.toL k).2 (opAt (repOps d.live.toL s t) k), stO (runP (repOps d.live.toL s t) d.live.toL d.ops.toL k).1 (runP (repOps d.live.toL s t) d.live.toL d.ops.toL k).2 (opAt (repOps d.live.toL s t) k))) := hid rfl
        have EC : Hid (cdP (repOps d.live.toL s t) d.live.toL d.ops.toL k = cdL (runP (repOps d.live.toL s t) d.live.toL d.ops.toL k).1 (runP (repOps d.live.toL s t) d.live.toL d.ops.toL k).2.length (opAt (repOps d.live.toL s t) k)) := hid rfl
        have RF := hid (runA_fail (repOps d.live.toL s t) d.live.toL d.ops.toL k hltK HZ.out)
        generalize opAt (repOps d.live.toL s t) k = oo at *
        subst ea
        have bo : Below wr.heap.size wr (wr.alloc (.cells #[.int .i64 oo.kind, .string oo.name, .string oo.to, .string oo.data] 36)) := (Below.refl _ wr).alloc (Nat.le_refl _) _
        have N1 := N.below bo
        have A1' := A.below bo
        have R1' := R.below bo
        have B1' := then_ B bo
        have D1 := hid (HDk.out.below bo)
        have OO1 := hid (HOO.out.below bo)
        obtain ⟨n0, n1, n2⟩ := N1.three
        have nf := N1.warm
        obtain ⟨m0, m1, m2⟩ := N.three
        have CN := hid (implAct_L (runP (repOps d.live.toL s t) d.live.toL d.ops.toL k).1 d.safe.toL (runP (repOps d.live.toL s t) d.live.toL d.ops.toL k).2 (200 + k) GG.out (by omega) pl ps po px py pz oo ow.1 ow.2 _ D1.out)
        have lN : V.heap.size < wr.heap.size := N.lt
        have lN1 : wr.heap.size ≤ (wr.alloc (.cells #[.int .i64 oo.kind, .string oo.name, .string oo.to, .string oo.data] 36)).heap.size := bo.size
        clear hcc N A R B bo HO2 HOO HDk
        go_wp2_with fail
        refine CN.out.mono ?_
        rintro e v1 ⟨bl, bs, bq, bx, by_, bz, rfl, hA, hb⟩
        have N2 := N1.below hb
        have A2 := A1'.below hb
        have R2 := R1'.below hb
        have B2' := then_ B1' hb
        have HA := hid (hA.base B1'.size)
        have OO2 := hid (OO1.out.below hb)
        have lv : V.heap.size < v1.heap.size := Nat.lt_of_lt_of_le (Nat.lt_of_lt_of_le lN lN1) hb.size
        have nv : ¬ V.heap.size = v1.heap.size := by omega
        have bxx : Below v1.heap.size v1 (v1.alloc (.cells #[.slice bl (stL (runP (repOps d.live.toL s t) d.live.toL d.ops.toL k).1 (runP (repOps d.live.toL s t) d.live.toL d.ops.toL k).2 oo).length bx, .slice bs d.safe.toL.length by_, .slice bq (stO (runP (repOps d.live.toL s t) d.live.toL d.ops.toL k).1 (runP (repOps d.live.toL s t) d.live.toL d.ops.toL k).2 oo).length bz] 27)) := (Below.refl _ v1).alloc (Nat.le_refl _) _
        clear n0 n1 n2 nf m0 m1 m2 g0 g1 g2 g3 CN hA hb N1 A1' R1' B1' D1 OO1
        obtain ⟨x0, x1, x2⟩ := A2.three
        obtain ⟨y0, y1, y2⟩ := (A2.below bxx).three
        obtain ⟨n0, n1, n2⟩ := N2.three
        have nf := N2.warm
        by_cases cz : cdL (runP (repOps d.live.toL s t) d.live.toL d.ops.toL k).1 (runP (repOps d.live.toL s t) d.live.toL d.ops.toL k).2.length oo = 0
        · have HZ2 : Hid (∀ j, j < k + 1 → cdP (repOps d.live.toL s t) d.live.toL d.ops.toL j = 0) := hid (fun j hj => by
            by_cases e : j = k
            · rw [e, EC.out]; exact cz
            · exact HZ.out j (by omega))
          have HE : Hid (AnsI _ w.heap.size _ _ _ _ _ _) := hid ((HA.out.set3 N2 (.slice bl (stL (runP (repOps d.live.toL s t) d.live.toL d.ops.toL k).1 (runP (repOps d.live.toL s t) d.live.toL d.ops.toL k).2 oo).length bx) (.slice bs d.safe.toL.length by_) (.slice bq (stO (runP (repOps d.live.toL s t) d.live.toL d.ops.toL k).1 (runP (repOps d.live.toL s t) d.live.toL d.ops.toL k).2 oo).length bz)).below ((Below.refl _ _).alloc (Nat.le_refl _) (.cells #[.slice bl (stL (runP (repOps d.live.toL s t) d.live.toL d.ops.toL k).1 (runP (repOps d.live.toL s t) d.live.toL d.ops.toL k).2 oo).length bx, .slice bs d.safe.toL.length by_, .slice bq (stO (runP (repOps d.live.toL s t) d.live.toL d.ops.toL k).1 (runP (repOps d.live.toL s t) d.live.toL d.ops.toL k).2 oo).length bz] 27)))
          have HN := hid ((N2.set3 (.slice bl (stL (runP (repOps d.live.toL s t) d.live.toL d.ops.toL k).1 (runP (repOps d.live.toL s t) d.live.toL d.ops.toL k).2 oo).length bx) (.slice bs d.safe.toL.length by_) (.slice bq (stO (runP (repOps d.live.toL s t) d.live.toL d.ops.toL k).1 (runP (repOps d.live.toL s t) d.live.toL d.ops.toL k).2 oo).length bz)).alloc (.cells #[.slice bl (stL (runP (repOps d.live.toL s t) d.live.toL d.ops.toL k).1 (runP (repOps d.live.toL s t) d.live.toL d.ops.toL k).2 oo).length bx, .slice bs d.safe.toL.length by_, .slice bq (stO (runP (repOps d.live.toL s t) d.live.toL d.ops.toL k).1 (runP (repOps d.live.toL s t) d.live.toL d.ops.toL k).2 oo).length bz] 27))
          have HAx := hid ((A2.other3 (Q := V.heap.size) (by omega) (.slice bl (stL (runP (repOps d.live.toL s t) d.live.toL d.ops.toL k).1 (runP (repOps d.live.toL s t) d.live.toL d.ops.toL k).2 oo).length bx) (.slice bs d.safe.toL.length by_) (.slice bq (stO (runP (repOps d.live.toL s t) d.live.toL d.ops.toL k).1 (runP (repOps d.live.toL s t) d.live.toL d.ops.toL k).2 oo).length bz)).alloc (.cells #[.slice bl (stL (runP (repOps d.live.toL s t) d.live.toL d.ops.toL k).1 (runP (repOps d.live.toL s t) d.live.toL d.ops.toL k).2 oo).length bx, .slice bs d.safe.toL.length by_, .slice bq (stO (runP (repOps d.live.toL s t) d.live.toL d.ops.toL k).1 (runP (repOps d.live.toL s t) d.live.toL d.ops.toL k).2 oo).length bz] 27))
          have HRx := hid ((R2.other3 (Q := V.heap.size) (by omega) (.slice bl (stL (runP (repOps d.live.toL s t) d.live.toL d.ops.toL k).1 (runP (repOps d.live.toL s t) d.live.toL d.ops.toL k).2 oo).length bx) (.slice bs d.safe.toL.length by_) (.slice bq (stO (runP (repOps d.live.toL s t) d.live.toL d.ops.toL k).1 (runP (repOps d.live.toL s t) d.live.toL d.ops.toL k).2 oo).length bz)).alloc (.cells #[.slice bl (stL (runP (repOps d.live.toL s t) d.live.toL d.ops.toL k).1 (runP (repOps d.live.toL s t) d.live.toL d.ops.toL k).2 oo).length bx, .slice bs d.safe.toL.length by_, .slice bq (stO (runP (repOps d.live.toL s t) d.live.toL d.ops.toL k).1 (runP (repOps d.live.toL s t) d.live.toL d.ops.toL k).2 oo).length bz] 27))
          have HOx := hid (OwnO.below (own_setO (own_setO (own_setO OO2.out N2 (.slice bl (stL (runP (repOps d.live.toL s t) d.live.toL d.ops.toL k).1 (runP (repOps d.live.toL s t) d.live.toL d.ops.toL k).2 oo).length bx) (i := 0)) (N2.setAt (i := 0) (.slice bl (stL (runP (repOps d.live.toL s t) d.live.toL d.ops.toL k).1 (runP (repOps d.live.toL s t) d.live.toL d.ops.toL k).2 oo).length bx)) (.slice bs d.safe.toL.length by_) (i := 1)) ((N2.setAt (i := 0) (.slice bl (stL (runP (repOps d.live.toL s t) d.live.toL d.ops.toL k).1 (runP (repOps d.live.toL s t) d.live.toL d.ops.toL k).2 oo).length bx)).setAt (i := 1) (.slice bs d.safe.toL.length by_)) (.slice bq (stO (runP (repOps d.live.toL s t) d.live.toL d.ops.toL k).1 (runP (repOps d.live.toL s t) d.live.toL d.ops.toL k).2 oo).length bz) (i := 2)) ((Below.refl _ _).alloc (Nat.le_refl _) (.cells #[.slice bl (stL (runP (repOps d.live.toL s t) d.live.toL d.ops.toL k).1 (runP (repOps d.live.toL s t) d.live.toL d.ops.toL k).2 oo).length bx, .slice bs d.safe.toL.length by_, .slice bq (stO (runP (repOps d.live.toL s t) d.live.toL d.ops.toL k).1 (runP (repOps d.live.toL s t) d.live.toL d.ops.toL k).2 oo).length bz] 27)))
          have HBx := hid ((set3_below B2' (show w.heap.size ≤ V.heap.size by omega) (.slice bl (stL (runP (repOps d.live.toL s t) d.live.toL d.ops.toL k).1 (runP (repOps d.live.toL s t) d.live.toL d.ops.toL k).2 oo).length bx) (.slice bs d.safe.toL.length by_) (.slice bq (stO (runP (repOps d.live.toL s t) d.live.toL d.ops.toL k).1 (runP (repOps d.live.toL s t) d.live.toL d.ops.toL k).2 oo).length bz)).alloc (by simp only [nblk_setCell]; exact B2'.size) (.cells #[.slice bl (stL (runP (repOps d.live.toL s t) d.live.toL d.ops.toL k).1 (runP (repOps d.live.toL s t) d.live.toL d.ops.toL k).2 oo).length bx, .slice bs d.safe.toL.length by_, .slice bq (stO (runP (repOps d.live.toL s t) d.live.toL d.ops.toL k).1 (runP (repOps d.live.toL s t) d.live.toL d.ops.toL k).2 oo).length bz] 27))
          rw [cz]
          clear cz EC RF HA OO2 HAN
          go_wp2
          go_roundw
          case rel =>
            refine ⟨k + 1, bl, bs, bq, bx, by_, bz, by omega, by go_num, HZ2.out, ?_⟩
            rw [EP1.out]
            exact ⟨HN.out, HE.out.dat, fun _ => HE.out, HAx.out, HRx.out, HOx.out, HBx.out⟩
          case measure => simp [intOf]; omega
        · obtain ⟨kk, hkk⟩ : ∃ kk, kk = cdL (runP (repOps d.live.toL s t) d.live.toL d.ops.toL k).1 (runP (repOps d.live.toL s t) d.live.toL d.ops.toL k).2.length oo := ⟨_, rfl⟩
          have ER : Hid (repA d s t = (d.live.toL, d.safe.toL, d.ops.toL, kk)) := hid (by
            have hrun := RF.out (by rw [EC.out]; exact cz)
            rw [E0.out _ hrun, EC.out, ← hkk, if_neg (by rw [hkk]; exact cz)])
          have kb : (kk == 0) = false := by rw [hkk]; exact beq_eq_false_iff_ne.2 cz
          have Bw := then_ B2' bxx
          have Rw := R2.below bxx
          rw [← hkk]
          clear hkk cz EC RF HA OO2 HAN
          go_wp2_with fail
          refine (implCopy_L d.live.toL d.safe.toL d.ops.toL 200 G0.out (by omega) _ _ _ _ _ _ _ (DD.out _ Bw)).mono ?_
          rintro e vz ⟨zl, zs, zo, zx, zy, zz, rfl, hA, hb⟩
          have Rz := Rw.below hb
          have Bz := then_ Bw hb
          have HZz := hid (hA.base Bw.size)
          clear x0 x1 x2 y0 y1 y2 n0 n1 n2 nf hA hb
          obtain ⟨r0, r1, r2⟩ := Rz.three
          have rf := Rz.warm
          go_wp2
          refine bodyPost_ret (rep_results _ _ (w.heap.size + 1) _ _ _ (.int .i64 kk) Try.results18 (Rz.set3 _ _ _) rfl rfl) rfl ⟨_, _, _, by rw [ER.out], ?_, ?_⟩
          · rw [ER.out]
            exact HZz.out.set3 Rz _ _ _
          · exact set3_below Bz (by omega) _ _ _
      · obtain rfl : k = 2 := by omega
        have ER : Hid (repA d s t = ((runP (repOps d.live.toL s t) d.live.toL d.ops.toL 2).1, d.safe.toL, (runP (repOps d.live.toL s t) d.live.toL d.ops.toL 2).2, 0)) := hid (by
          have hrun := runA_all (repOps d.live.toL s t) d.live.toL d.ops.toL (by rw [LK.out]; exact HZ.out)
          rw [LK.out] at hrun
          rw [E0.out _ hrun, if_pos rfl])
        have HE := hid (HAN.out (by omega))
        obtain ⟨n0, n1, n2⟩ := N.three
        obtain ⟨r0, r1, r2⟩ := R.three
        have rf := R.warm
        go_wp2
        refine bodyPost_ret (rep_results _ _ (w.heap.size + 1) _ _ _ (.int .i64 0) Try.results18 (R.set3 _ _ _) rfl rfl) rfl ⟨_, _, _, by rw [ER.out], ?_, ?_⟩
        · rw [ER.out]
          exact HE.out.set3 R _ _ _
        · exact set3_below B (by omega) _ _ _
    
end Go.Proofs.Ytcchpeebhkiacaa
