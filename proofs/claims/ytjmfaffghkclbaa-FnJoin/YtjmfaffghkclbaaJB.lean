/- Join of the model answers the plain function of the two labels. -/
import Derived.Test.YtjmfaffghkclbaaJL
namespace Go.Proofs.Ytjmfaffghkclbaa
open Go.RowKit Go.Deep Go.Maps

set_option maxRecDepth 100000 in
set_option maxHeartbeats 4000000 in
theorem specJoin_any (ba : Int) (aa : Option Addr) (na ka : Nat) (fa ga : Nat → Int) (bb : Int) (ab : Option Addr) (nb kb : Nat) (fb gb : Nat → Int) (w : World)
    (hna : na ≤ maxLen) (hnb : nb ≤ maxLen) (hca : CatsAt w aa na fa ga) (hcb : CatsAt w ab nb fb gb) :
    Calls Try.prog 30 #[.agg #[.int .i64 ba, .slice aa na ka], .agg #[.int .i64 bb, .slice ab nb kb]] w fun e w' => LabPost (mgBase max ba na fa ga bb nb fb gb) (mgList max ba na fa ga bb nb fb gb) (mgOk max ba na fa ga bb nb fb gb) w e w' := by
  have hb0 := (((Below.refl _ w).alloc (Nat.le_refl _) (.cells #[.int .i64 ba, .slice aa na ka] 26)).alloc (by simp) (.cells #[.int .i64 bb, .slice ab nb kb] 26)).alloc (by simp; omega) (.cells #[.int .i64 0, .slice none 0 0] 26)
  have A0 : Blk (((w.alloc (.cells #[.int .i64 ba, .slice aa na ka] 26)).alloc (.cells #[.int .i64 bb, .slice ab nb kb] 26)).alloc (.cells #[.int .i64 0, .slice none 0 0] 26)) w.heap.size (.cells #[.int .i64 ba, .slice aa na ka] 26) := ((Blk.new w _).alloc _).alloc _
  have B0 : Blk (((w.alloc (.cells #[.int .i64 ba, .slice aa na ka] 26)).alloc (.cells #[.int .i64 bb, .slice ab nb kb] 26)).alloc (.cells #[.int .i64 0, .slice none 0 0] 26)) (w.heap.size + 1) (.cells #[.int .i64 bb, .slice ab nb kb] 26) := by
    have := (Blk.new (w.alloc (.cells #[.int .i64 ba, .slice aa na ka] 26)) (.cells #[.int .i64 bb, .slice ab nb kb] 26)).alloc (.cells #[.int .i64 0, .slice none 0 0] 26)
    simpa using this
  have Y0 : Blk (((w.alloc (.cells #[.int .i64 ba, .slice aa na ka] 26)).alloc (.cells #[.int .i64 bb, .slice ab nb kb] 26)).alloc (.cells #[.int .i64 0, .slice none 0 0] 26)) (w.heap.size + 1 + 1) (.cells #[.int .i64 0, .slice none 0 0] 26) := by
    have := Blk.new ((w.alloc (.cells #[.int .i64 ba, .slice aa na ka] 26)).alloc (.cells #[.int .i64 bb, .slice ab nb kb] 26)) (.cells #[.int .i64 0, .slice none 0 0] 26)
    simpa using this
  have NP : Hid (∀ v : World, mgOk max ba na fa ga bb nb fb gb = false → Below w.heap.size w v → LabPost (mgBase max ba na fa ga bb nb fb gb) (mgList max ba na fa ga bb nb fb gb) (mgOk max ba na fa ga bb nb fb gb) w (.returned (.tuple #[.agg #[.int .i64 0, .slice none 0 0], .bool false])) v) := fun v h1 h2 => mgPost_no h1 h2
  have YES : Hid (∀ (va : Option Addr) (vc : Nat) (v : World), mgOk max ba na fa ga bb nb fb gb = true → Below w.heap.size w v → OwnList v w.heap.size (.slice va (mgAll max ba na fa ga bb nb fb gb).length vc) (mgAll max ba na fa ga bb nb fb gb) → LabPost (mgBase max ba na fa ga bb nb fb gb) (mgList max ba na fa ga bb nb fb gb) (mgOk max ba na fa ga bb nb fb gb) w (.returned (.tuple #[.agg #[.int .i64 (max ba bb), .slice va (mgAll max ba na fa ga bb nb fb gb).length vc], .bool true])) v) := fun va vc v h1 h2 h3 => mgPost_yes h1 h2 h3
  have HMG : Hid (mgAll max ba na fa ga bb nb fb gb = foldTo (max ba bb) (glue na fa fb) (pkLev max ba na fa ga bb nb fb gb) (na + nb)) := rfl
  have HOK : Hid (labOk ba na fa ga = true → labOk bb nb fb gb = true → labOk (max ba bb) (mgAll max ba na fa ga bb nb fb gb).length (fstAt (mgAll max ba na fa ga bb nb fb gb)) (sndAt (mgAll max ba na fa ga bb nb fb gb)) = decide ((mgAll max ba na fa ga bb nb fb gb).length ≤ 12)) := fun h1 h2 => mgAll_ok picks_max h1 h2
  have HMO : Hid (mgOk max ba na fa ga bb nb fb gb = (labOk ba na fa ga && labOk bb nb fb gb && decide ((mgAll max ba na fa ga bb nb fb gb).length ≤ 12))) := rfl
  generalize LabPost (mgBase max ba na fa ga bb nb fb gb) (mgList max ba na fa ga bb nb fb gb) (mgOk max ba na fa ga bb nb fb gb) = LP at *
  generalize mgOk max ba na fa ga bb nb fb gb = OK at *
  generalize mgAll max ba na fa ga bb nb fb gb = ML at *
  go_enter Try.func30, Try.ntmps30
  go_wp2_with fail
  refine (specOk_any _ _ _ _ fa ga _ hna (hca.below hb0)).mono ?_
  rintro e w1 ⟨rfl, hb1⟩
  have A1 := A0.below hb1
  have B1 := B0.below hb1
  have Y1 := Y0.below hb1
  have L1 : Below w.heap.size w w1 := hb0.trans (hb1.mono hb0.size)
  clear hb0 hb1 A0 B0 Y0
  obtain ⟨x1, x2⟩ := B1.two
  obtain ⟨y1, y2⟩ := Y1.two
  have yf0 := Y1.frozen2 0
  have yf1 := Y1.frozen2 1
  by_cases t1 : labOk ba na fa ga = true
  · go_wp2_with fail
    refine (specOk_any _ _ _ _ fb gb _ hnb (hcb.below L1)).mono ?_
    rintro e w2 ⟨rfl, hb2⟩
    have A2 := A1.below hb2
    have B2 := B1.below hb2
    have Y2 := Y1.below hb2
    have L2 : Below w.heap.size w w2 := L1.trans (hb2.mono L1.size)
    clear hb2 A1 B1 Y1 L1 x1 x2 y1 y2 yf0 yf1
    have lY := Y2.lt
    obtain ⟨y1, y2⟩ := Y2.two
    have yf0 := Y2.frozen2 0
    have yf1 := Y2.frozen2 1
    by_cases t2 : labOk bb nb fb gb = true
    · obtain ⟨x1, x2⟩ := A2.two
      obtain ⟨x3, x4⟩ := B2.two
      clear y1 y2 yf0 yf1
      go_wp2_with fail
      have A3 := A2.alloc (.cells #[.int .i64 (max ba bb), .slice none 0 0] 26)
      have B3 := B2.alloc (.cells #[.int .i64 (max ba bb), .slice none 0 0] 26)
      have Y3 := Y2.alloc (.cells #[.int .i64 (max ba bb), .slice none 0 0] 26)
      have Z3 := Blk.new w2 (.cells #[.int .i64 (max ba bb), .slice none 0 0] 26)
      have L3 : Below w.heap.size w (w2.alloc (.cells #[.int .i64 (max ba bb), .slice none 0 0] 26)) := L2.alloc L2.size _
      generalize w2.alloc (.cells #[.int .i64 (max ba bb), .slice none 0 0] 26) = W3 at *
      have na' : na ≤ 12 := (labOk_out t1).2.1
      have nb' : nb ≤ 12 := (labOk_out t2).2.1
      have HRA : Hid (∀ j, j < na → ∀ i, i < j → fa i < fa j) := rising (labOk_out t1).2.2
      have HRB : Hid (∀ j, j < nb → ∀ i, i < j → fb i < fb j) := rising (labOk_out t2).2.2
      have HT : Hid (OK = decide (ML.length ≤ 12) ∧ labOk (max ba bb) ML.length (fstAt ML) (sndAt ML) = decide (ML.length ≤ 12)) := ⟨by rw [HMO.out, t1, t2]; simp, HOK.out t1 t2⟩
      clear HMO HOK t1 t2 A2 B2 Y2 L2 x1 x2 x3 x4
      have own0 : OwnCats ((W3.alloc (.cells #[] 84)).drew) W3.heap.size (.slice (some ⟨W3.heap.size, 0, none⟩) 0 0) 0 (fun _ => 0) (fun _ => 0) := by
        have := World.ownsRow_made (base := W3.heap.size) (e := 84) (size := 2) W3 #[] 0 (by simp) (Nat.zero_le _) rfl
        exact this
      have K0 : Below W3.heap.size W3 ((W3.alloc (.cells #[] 84)).drew) := ((Below.refl _ _).alloc (Nat.le_refl _) _).drew
      have C0a := (hca.below L3).below K0
      have HCB : Hid (CatsAt W3 ab nb fb gb) := hcb.below L3
      obtain ⟨d1, d2⟩ := (A3.below K0).two
      obtain ⟨d3, d4⟩ := (B3.below K0).two
      have GG : ∀ v1, ((W3.alloc (.cells #[] 84)).drew).grownBy v1 (Value.slice (some ⟨W3.heap.size, 0, none⟩) 0 0).ownBlock → Below W3.heap.size W3 v1 := fun v1 hg => K0.grown hg (by show _ ≤ (W3.alloc _).heap.size; simp) (fun k e => by cases e; exact Nat.le_refl _)
      obtain ⟨x1, x2⟩ := A3.two
      obtain ⟨x3, x4⟩ := B3.two
      go_region_held3 (fun w' => w'.cell? ⟨w.heap.size, 0, none⟩ = some (.int .i64 ba) ∧ w'.cell? ⟨w.heap.size, 1, none⟩ = some (.slice aa na ka) ∧ w'.cell? ⟨w.heap.size + 1, 0, none⟩ = some (.int .i64 bb) ∧ w'.cell? ⟨w.heap.size + 1, 1, none⟩ = some (.slice ab nb kb)) (go_keep)
        (first
          | (refine step_append_cats0 _ (by rfl) _ _ (by rfl) W3.heap.size _ (fun _ => 0) (fun _ => 0) (by rfl) own0 aa na ka fa ga (by rfl) C0a (by omega) (by simp) ?_; intro a1 c1 v1 hown1 hgrow1 hat1; have G1 := GG v1 hgrow1; obtain ⟨p1, p2⟩ := (A3.below G1).two; obtain ⟨p3, p4⟩ := (B3.below G1).two; have s1 := G1.size; have C1b := HCB.out.below G1)
          | (refine step_append_cats _ (by rfl) _ _ (by rfl) W3.heap.size _ na fa ga (by rfl) hown1 ab nb kb fb gb (by rfl) C1b (by omega) s1 ?_; intro a2 c2 v2 hown2 hgrow2 hat2; have G2 : Below W3.heap.size W3 v2 := G1.grown hgrow2 s1 (fun k e => (World.ownsRow.lt hown1 k e).1); obtain ⟨q1, q2⟩ := (A3.below G2).two; obtain ⟨q3, q4⟩ := (B3.below G2).two))
      have C2 := OwnCats.cats hown2
      have HBL : ∀ b off, a2 = some ⟨b, off, none⟩ → 0 < na + nb → W3.heap.size ≤ b := fun b off e h0 => by
        obtain ⟨gb, cap, hv, hB, _⟩ := World.ownsRow.form hown2 h0
        simp only [Value.slice.injEq] at hv
        rw [e] at hv
        simp only [Option.some.injEq, Addr.mk.injEq] at hv
        omega
      clear d1 d2 d3 d4 x1 x2 x3 x4 p1 p2 p3 p4 q1 q2 q3 q4 own0 K0 C0a GG G1 s1 C1b hown1 hown2 hgrow1 hgrow2 hat1 hat2
      go_wp2_with fail
      have lZ : w2.heap.size < W3.heap.size := Z3.lt
      have A4 := A3.below G2
      have B4 := B3.below G2
      have Y4 := Y3.below G2
      have Z4 := Z3.below G2
      have L4 : Below w.heap.size w v2 := L3.trans (G2.mono L3.size)
      have s4 := G2.size
      have ma : na ≤ maxLen := hna
      have lA : w.heap.size < v2.heap.size := A4.lt
      have HCA0 : Hid (CatsAt w aa na fa ga) := hca
      have HCB0 : Hid (CatsAt w ab nb fb gb) := hcb
      have hbl0 : ∀ b off, a2 = some ⟨b, off, none⟩ → (0 < na + nb) → W3.heap.size ≤ b := HBL
      clear A3 B3 Y3 Z3 HCB G2 hca hcb HBL
      generalize hl : pkLev max ba na fa ga bb nb fb gb = lev at *
      have HL : Hid (pkLev max ba na fa ga bb nb fb gb = lev) := hl
      clear hl
      go_loopw [8] (fun i wr => ∃ (k : Nat) (va : Option Addr) (vc : Nat), k ≤ na + nb ∧ i = .int .i64 k ∧ Blk wr w2.heap.size (.cells #[.int .i64 (max ba bb), .slice va (foldTo (max ba bb) (glue na fa fb) lev k).length vc] 26) ∧ OwnList wr W3.heap.size (.slice va (foldTo (max ba bb) (glue na fa fb) lev k).length vc) (foldTo (max ba bb) (glue na fa fb) lev k) ∧ v2.grownBy wr (some w2.heap.size)) (fun i _ => na + nb - (intOf i).toNat)
      case atStart => exact ⟨0, none, 0, Nat.zero_le _, rfl, Z4, OwnCats.nil _ _ _ _, grown_refl _ _⟩
      case round =>
        obtain ⟨k, va, vc, hk, rfl, hZ, hO, hg⟩ := hrel
        have lens := foldTo_len (max ba bb) (glue na fa fb) lev k
        have hs := hg.size
        by_cases hlt' : k < na + nb
        · obtain ⟨b, off, rfl, hlt, hcc⟩ := C2 (by omega)
          have bW := hbl0 b off rfl (by omega)
          have ne1 : b ≠ w2.heap.size := by omega
          have Ad : Blk wr.drew w.heap.size (.cells #[.int .i64 ba, .slice aa na ka] 26) := Blk.grown (W' := wr) A4 hg (by simp; omega)
          have Bd : Blk wr.drew (w.heap.size + 1) (.cells #[.int .i64 bb, .slice ab nb kb] 26) := Blk.grown (W' := wr) B4 hg (by simp; omega)
          obtain ⟨x, hx⟩ : ∃ x, x = glue na fa fb k := ⟨_, rfl⟩
          have r5 : wr.cell? ⟨b, off + k * 2, none⟩ = some (.int .i64 x) := by rw [hx]; exact (grown_cell hg hlt ne1).trans (hcc k hlt').1
          have HF1 : foldTo (max ba bb) (glue na fa fb) lev (k + 1) = insFin (max ba bb) (foldTo (max ba bb) (glue na fa fb) lev k).length (fstAt (foldTo (max ba bb) (glue na fa fb) lev k)) (sndAt (foldTo (max ba bb) (glue na fa fb) lev k)) x (max (levOf ba na fa ga x) (levOf bb nb fb gb x)) := by
            show insFin _ _ _ _ (glue na fa fb k) (lev (glue na fa fb k)) = _
            rw [← HL.out, ← hx]; rfl
          generalize foldTo (max ba bb) (glue na fa fb) lev k = l at *
          have HF : Hid (foldTo (max ba bb) (glue na fa fb) lev (k + 1) = insFin (max ba bb) l.length (fstAt l) (sndAt l) x (max (levOf ba na fa ga x) (levOf bb nb fb gb x))) := HF1
          have Zd : Blk wr.drew w2.heap.size (.cells #[.int .i64 (max ba bb), .slice va l.length vc] 26) := hZ
          have Cl : CatsAt wr.drew va l.length (fstAt l) (sndAt l) := OwnCats.cats hO
          have Lw : Below w.heap.size w wr.drew := (L4.grown hg L4.size (fun j e => by cases e; omega)).drew
          have Ga : CatsAt wr.drew aa na fa ga := HCA0.out.below Lw
          have Gb : CatsAt wr.drew ab nb fb gb := HCB0.out.below Lw
          have i0 : (0 : Int) ≤ (k : Int) := by omega
          have i1 : (k : Int) < ((na + nb : Nat) : Int) := by omega
          have i1' : (k : Int) < (na : Int) + (nb : Int) := by omega
          have hl' : l.length ≤ 1048576 := by omega
          have y3 : b < wr.drew.heap.size := Nat.lt_of_lt_of_le hlt hs
          have r5d : wr.drew.cell? ⟨b, off + k * 2, none⟩ = some (.int .i64 x) := r5
          obtain ⟨r1, r2⟩ : wr.cell? ⟨w.heap.size, 0, none⟩ = _ ∧ wr.cell? ⟨w.heap.size, 1, none⟩ = _ := Ad.two
          obtain ⟨r3, r4⟩ : wr.cell? ⟨w.heap.size + 1, 0, none⟩ = _ ∧ wr.cell? ⟨w.heap.size + 1, 1, none⟩ = _ := Bd.two
          obtain ⟨r6, r7⟩ : wr.cell? ⟨w2.heap.size, 0, none⟩ = _ ∧ wr.cell? ⟨w2.heap.size, 1, none⟩ = _ := Zd.two
          have n1 : w.heap.size ≠ w2.heap.size := by omega
          have n2 : w.heap.size + 1 ≠ w2.heap.size := by omega
          clear hcc HF1 hx hO
          go_wp2_with fail
          refine AnyL.region (fun w' => w'.cell? ⟨w.heap.size, 0, none⟩ = some (.int .i64 ba) ∧ w'.cell? ⟨w.heap.size, 1, none⟩ = some (.slice aa na ka) ∧ w'.cell? ⟨w.heap.size + 1, 0, none⟩ = some (.int .i64 bb) ∧ w'.cell? ⟨w.heap.size + 1, 1, none⟩ = some (.slice ab nb kb) ∧ w'.cell? ⟨b, off + k * 2, none⟩ = some (.int .i64 x) ∧ w'.cell? ⟨w2.heap.size, 0, none⟩ = some (.int .i64 (max ba bb)) ∧ w'.cell? ⟨w2.heap.size, 1, none⟩ = some (.slice va l.length vc)) 22 (by kernel_rfl) ?_
          have S0 : wr.drew.cell? ⟨w.heap.size, 0, none⟩ = some (.int .i64 ba) ∧ wr.drew.cell? ⟨w.heap.size, 1, none⟩ = some (.slice aa na ka) ∧ wr.drew.cell? ⟨w.heap.size + 1, 0, none⟩ = some (.int .i64 bb) ∧ wr.drew.cell? ⟨w.heap.size + 1, 1, none⟩ = some (.slice ab nb kb) ∧ wr.drew.cell? ⟨b, off + k * 2, none⟩ = some (.int .i64 x) ∧ wr.drew.cell? ⟨w2.heap.size, 0, none⟩ = some (.int .i64 (max ba bb)) ∧ wr.drew.cell? ⟨w2.heap.size, 1, none⟩ = some (.slice va l.length vc) := ⟨r1, r2, r3, r4, r5, r6, r7⟩
          clear r1 r2 r3 r4 r5 r6 r7
          refine AnyL.take (i := 0) (.agg #[.int .i64 (max ba bb), .slice va l.length vc]) rfl (by kernel_rfl) (by kernel_rfl) (by kernel_rfl) (by kernel_rfl) (fun _ _ _ h => h) S0 (Or.inl ⟨by rfl, fun w' h => (by dsimp only at h; go_simp)⟩) ?_
          simp only [Act.put, List.setIfInBounds_toArray]
          refine AnyL.take (i := 1) (.slice (some ⟨b, off, none⟩) (na + nb) c2) rfl (by kernel_rfl) (by kernel_rfl) (by kernel_rfl) (by kernel_rfl) (fun _ _ _ h => h) S0 (Or.inl ⟨by rfl, fun w' h => (by dsimp only at h; go_simp)⟩) ?_
          simp only [Act.put]
          refine AnyL.take (i := 2) (.int .i64 k) rfl (by kernel_rfl) (by kernel_rfl) (by kernel_rfl) (by kernel_rfl) (fun _ _ _ h => h) S0 (Or.inl ⟨by rfl, fun w' h => (by dsimp only at h; go_simp)⟩) ?_
          simp only [Act.put]
          refine AnyL.take (i := 3) (.pointer (some ⟨b, off + k * 2, none⟩)) rfl (by kernel_rfl) (by kernel_rfl) (by kernel_rfl) (by kernel_rfl) (fun _ _ _ h => h) S0 (Or.inl ⟨by rfl, fun w' h => (by dsimp only at h; go_simp)⟩) ?_
          simp only [Act.put]
          refine AnyL.take (i := 4) (.pointer (some ⟨b, off + k * 2, none⟩)) rfl (by kernel_rfl) (by kernel_rfl) (by kernel_rfl) (by kernel_rfl) (fun _ _ _ h => h) S0 (Or.inl ⟨by rfl, fun w' h => (by dsimp only at h; go_simp)⟩) ?_
          simp only [Act.put]
          refine AnyL.take (i := 5) (.int .i64 x) rfl (by kernel_rfl) (by kernel_rfl) (by kernel_rfl) (by kernel_rfl) (fun _ _ _ h => h) S0 (Or.inl ⟨by rfl, fun w' h => (by dsimp only at h; go_simp)⟩) ?_
          simp only [Act.put]
          refine AnyL.take (i := 6) (.agg #[.int .i64 ba, .slice aa na ka]) rfl (by kernel_rfl) (by kernel_rfl) (by kernel_rfl) (by kernel_rfl) (fun _ _ _ h => h) S0 (Or.inl ⟨by rfl, fun w' h => (by dsimp only at h; go_simp)⟩) ?_
          simp only [Act.put]
          refine AnyL.take (i := 7) (.slice (some ⟨b, off, none⟩) (na + nb) c2) rfl (by kernel_rfl) (by kernel_rfl) (by kernel_rfl) (by kernel_rfl) (fun _ _ _ h => h) S0 (Or.inl ⟨by rfl, fun w' h => (by dsimp only at h; go_simp)⟩) ?_
          simp only [Act.put]
          refine AnyL.take (i := 8) (.int .i64 k) rfl (by kernel_rfl) (by kernel_rfl) (by kernel_rfl) (by kernel_rfl) (fun _ _ _ h => h) S0 (Or.inl ⟨by rfl, fun w' h => (by dsimp only at h; go_simp)⟩) ?_
          simp only [Act.put]
          refine AnyL.take (i := 9) (.pointer (some ⟨b, off + k * 2, none⟩)) rfl (by kernel_rfl) (by kernel_rfl) (by kernel_rfl) (by kernel_rfl) (fun _ _ _ h => h) S0 (Or.inl ⟨by rfl, fun w' h => (by dsimp only at h; go_simp)⟩) ?_
          simp only [Act.put]
          refine AnyL.take (i := 10) (.pointer (some ⟨b, off + k * 2, none⟩)) rfl (by kernel_rfl) (by kernel_rfl) (by kernel_rfl) (by kernel_rfl) (fun _ _ _ h => h) S0 (Or.inl ⟨by rfl, fun w' h => (by dsimp only at h; go_simp)⟩) ?_
          simp only [Act.put]
          refine AnyL.take (i := 11) (.int .i64 x) rfl (by kernel_rfl) (by kernel_rfl) (by kernel_rfl) (by kernel_rfl) (fun _ _ _ h => h) S0 (Or.inl ⟨by rfl, fun w' h => (by dsimp only at h; go_simp)⟩) ?_
          simp only [Act.put]
          refine AnyL.take (i := 13) (.agg #[.int .i64 bb, .slice ab nb kb]) rfl (by kernel_rfl) (by kernel_rfl) (by kernel_rfl) (by kernel_rfl) (fun _ _ _ h => h) S0 (Or.inl ⟨by rfl, fun w' h => (by dsimp only at h; go_simp)⟩) ?_
          simp only [Act.put]
          refine AnyL.take (i := 14) (.slice (some ⟨b, off, none⟩) (na + nb) c2) rfl (by kernel_rfl) (by kernel_rfl) (by kernel_rfl) (by kernel_rfl) (fun _ _ _ h => h) S0 (Or.inl ⟨by rfl, fun w' h => (by dsimp only at h; go_simp)⟩) ?_
          simp only [Act.put]
          refine AnyL.take (i := 15) (.int .i64 k) rfl (by kernel_rfl) (by kernel_rfl) (by kernel_rfl) (by kernel_rfl) (fun _ _ _ h => h) S0 (Or.inl ⟨by rfl, fun w' h => (by dsimp only at h; go_simp)⟩) ?_
          simp only [Act.put]
          refine AnyL.take (i := 16) (.pointer (some ⟨b, off + k * 2, none⟩)) rfl (by kernel_rfl) (by kernel_rfl) (by kernel_rfl) (by kernel_rfl) (fun _ _ _ h => h) S0 (Or.inl ⟨by rfl, fun w' h => (by dsimp only at h; go_simp)⟩) ?_
          simp only [Act.put]
          refine AnyL.take (i := 17) (.pointer (some ⟨b, off + k * 2, none⟩)) rfl (by kernel_rfl) (by kernel_rfl) (by kernel_rfl) (by kernel_rfl) (fun _ _ _ h => h) S0 (Or.inl ⟨by rfl, fun w' h => (by dsimp only at h; go_simp)⟩) ?_
          simp only [Act.put]
          refine AnyL.take (i := 18) (.int .i64 x) rfl (by kernel_rfl) (by kernel_rfl) (by kernel_rfl) (by kernel_rfl) (fun _ _ _ h => h) S0 (Or.inl ⟨by rfl, fun w' h => (by dsimp only at h; go_simp)⟩) ?_
          simp only [Act.put]
          refine AnyL.one (i := 12) rfl (by kernel_rfl) (fun K1 hK1 => ?_)
          go_simp
          refine (l1Level_any ba aa na ka fa ga x _ hna Ga HRA.out).mono ?_
          rintro e u1 ⟨rfl, hb1⟩
          have S1 : u1.cell? ⟨w.heap.size, 0, none⟩ = some (.int .i64 ba) ∧ u1.cell? ⟨w.heap.size, 1, none⟩ = some (.slice aa na ka) ∧ u1.cell? ⟨w.heap.size + 1, 0, none⟩ = some (.int .i64 bb) ∧ u1.cell? ⟨w.heap.size + 1, 1, none⟩ = some (.slice ab nb kb) ∧ u1.cell? ⟨b, off + k * 2, none⟩ = some (.int .i64 x) ∧ u1.cell? ⟨w2.heap.size, 0, none⟩ = some (.int .i64 (max ba bb)) ∧ u1.cell? ⟨w2.heap.size, 1, none⟩ = some (.slice va l.length vc) := ⟨(Ad.below hb1).two.1, (Ad.below hb1).two.2, (Bd.below hb1).two.1, (Bd.below hb1).two.2, (hb1.cell (p := ⟨b, off + k * 2, none⟩) y3).trans r5d, (Zd.below hb1).two.1, (Zd.below hb1).two.2⟩
          refine hK1.out _ _ (fun _ => S1) ?_
          clear hK1 K1 S0
          refine AnyL.one (i := 19) rfl (by kernel_rfl) (fun K1 hK1 => ?_)
          go_simp
          refine (l1Level_any bb ab nb kb fb gb x _ hnb (Gb.below hb1) HRB.out).mono ?_
          rintro e u2 ⟨rfl, hb2⟩
          have Zu := (Zd.below hb1).below hb2
          have S2 : u2.cell? ⟨w.heap.size, 0, none⟩ = some (.int .i64 ba) ∧ u2.cell? ⟨w.heap.size, 1, none⟩ = some (.slice aa na ka) ∧ u2.cell? ⟨w.heap.size + 1, 0, none⟩ = some (.int .i64 bb) ∧ u2.cell? ⟨w.heap.size + 1, 1, none⟩ = some (.slice ab nb kb) ∧ u2.cell? ⟨b, off + k * 2, none⟩ = some (.int .i64 x) ∧ u2.cell? ⟨w2.heap.size, 0, none⟩ = some (.int .i64 (max ba bb)) ∧ u2.cell? ⟨w2.heap.size, 1, none⟩ = some (.slice va l.length vc) := ⟨((Ad.below hb1).below hb2).two.1, ((Ad.below hb1).below hb2).two.2, ((Bd.below hb1).below hb2).two.1, ((Bd.below hb1).below hb2).two.2, (hb2.cell (p := ⟨b, off + k * 2, none⟩) (Nat.lt_of_lt_of_le y3 hb1.size)).trans S1.2.2.2.2.1, Zu.two.1, Zu.two.2⟩
          refine hK1.out _ _ (fun _ => S2) ?_
          clear hK1 K1 S1
          refine AnyL.take (i := 20) (.int .i64 (max (levOf ba na fa ga x) (levOf bb nb fb gb x))) rfl (by kernel_rfl) (by kernel_rfl) (by kernel_rfl) (by kernel_rfl) (fun _ _ _ h => h) S2 (Or.inl ⟨by rfl, fun w' h => (by dsimp only at h; go_simp)⟩) ?_
          simp only [Act.put]
          refine AnyL.one (i := 21) rfl (by kernel_rfl) (fun K1 hK1 => ?_)
          go_simp
          refine (l1With_any _ va l.length vc (fstAt l) (sndAt l) x _ _ hl' ((Cl.below hb1).below hb2)).mono ?_
          rintro e u3 ⟨ua, uc, rfl, uo, hb3⟩
          have Z3 := Zu.below hb3
          have S3 : u3.cell? ⟨w.heap.size, 0, none⟩ = some (.int .i64 ba) ∧ u3.cell? ⟨w.heap.size, 1, none⟩ = some (.slice aa na ka) ∧ u3.cell? ⟨w.heap.size + 1, 0, none⟩ = some (.int .i64 bb) ∧ u3.cell? ⟨w.heap.size + 1, 1, none⟩ = some (.slice ab nb kb) ∧ u3.cell? ⟨b, off + k * 2, none⟩ = some (.int .i64 x) ∧ u3.cell? ⟨w2.heap.size, 0, none⟩ = some (.int .i64 (max ba bb)) ∧ u3.cell? ⟨w2.heap.size, 1, none⟩ = some (.slice va l.length vc) := ⟨(((Ad.below hb1).below hb2).below hb3).two.1, (((Ad.below hb1).below hb2).below hb3).two.2, (((Bd.below hb1).below hb2).below hb3).two.1, (((Bd.below hb1).below hb2).below hb3).two.2, (hb3.cell (p := ⟨b, off + k * 2, none⟩) (Nat.lt_of_lt_of_le y3 (Nat.le_trans hb1.size hb2.size))).trans S2.2.2.2.2.1, Z3.two.1, Z3.two.2⟩
          refine hK1.out _ _ (fun _ => S3) ?_
          clear hK1 K1 S2 Zu
          obtain ⟨s6, s7⟩ := Z3.two
          have zf0 := Z3.frozen2 0
          have zf1 := Z3.frozen2 1
          refine AnyL.one (i := 22) rfl (by kernel_rfl) (fun K1 hK1 => ?_)
          go_simp
          refine hK1.out _ _ (fun h => absurd rfl h) ?_
          refine AnyL.done (by kernel_rfl) ?_
          clear hK1 K1 S3 s6 s7 zf0 zf1
          clear Cl Ga Gb Ad Bd r5d
          have hgu : v2.grownBy u3 (some w2.heap.size) := grown_below (grown_below (grown_below (⟨hg.os, hg.tape, hg.output, hg.size, hg.block⟩ : v2.grownBy wr.drew (some w2.heap.size)) hb1) hb2) hb3
          have su : W3.heap.size ≤ u2.heap.size := by have h1 : wr.heap.size ≤ u1.heap.size := hb1.size; have h2 := hb2.size; have := hg.size; omega
          clear hb1 hb2 hb3 Zd
          go_wp2
          go_roundw
          case rel =>
            refine ⟨k + 1, ua, uc, by omega, by go_num, ?_, ?_, grown_set (grown_set hgu _ _) _ _⟩
            · rw [HF.out]; exact (Z3.set0 _).set1 _
            · rw [HF.out]; exact ownsRow_base_a (OwnList.set (OwnList.set uo (by omega) _ _) (by omega) _ _) su
          case measure => simp [intOf]; omega
        · have e : k = na + nb := by omega
          subst e
          rw [← HMG.out] at hZ hO
          have hc5 : CatsAt wr va ML.length (fstAt ML) (sndAt ML) := OwnCats.cats hO
          have Lw : Below w.heap.size w wr := L4.grown hg L4.size (fun j e => by cases e; omega)
          have Y5 : Blk wr (w.heap.size + 1 + 1) (.cells #[.int .i64 0, .slice none 0 0] 26) := Blk.grown Y4 hg (by simp; omega)
          have ml : ML.length ≤ maxLen := by have := foldTo_len (max ba bb) (glue na fa fb) lev (na + nb); rw [← HMG.out] at this; unfold maxLen; omega
          clear C2 A4 B4 Y4 Z4 lens hbl0
          obtain ⟨z1, z2⟩ := hZ.two
          go_wp2_with fail
          refine (specOk_any _ _ _ _ (fstAt ML) (sndAt ML) _ ml hc5).mono ?_
          rintro e w6 ⟨rfl, hb6⟩
          have Y6 := Y5.below hb6
          have Z6 := hZ.below hb6
          have O6 := OwnList.below hO hb6
          have L6 : Below w.heap.size w w6 := Lw.trans (hb6.mono Lw.size)
          have lY6 := Y6.lt
          clear z1 z2 hc5 hZ hO hg hb6 Y5 Lw
          obtain ⟨z1, z2⟩ := Z6.two
          obtain ⟨y1, y2⟩ := Y6.two
          have yf0 := Y6.frozen2 0
          have yf1 := Y6.frozen2 1
          have ne6 : w2.heap.size ≠ w.heap.size + 1 + 1 := by omega
          obtain ⟨hok, hlk⟩ := HT.out
          rw [hlk]
          clear hlk
          by_cases t3 : ML.length ≤ 12
          · have t3' : decide (ML.length ≤ 12) = true := by simpa using t3
            have HW : Hid (OK = true) := hok.trans t3'
            rw [t3']
            clear t3' hok t3
            go_wp2
            refine bodyPost_ret (v := .tuple #[.agg #[.int .i64 (max ba bb), .slice va ML.length vc], .bool true]) (by simp [results, Try.results30, go_sem, *]) rfl (YES.out _ _ _ HW.out ((L6.setCell (by dsimp only; omega) _).setCell (by dsimp only; omega) _) ?_)
            exact ownsRow_base_a (OwnList.set (OwnList.set O6 (by omega) _ _) (by omega) _ _) (by have := L3.size; omega)
          · have t3' : decide (ML.length ≤ 12) = false := by simpa using t3
            have HW : Hid (OK = false) := hok.trans t3'
            rw [t3']
            clear t3' hok t3
            go_wp2
            exact bodyPost_ret (v := .tuple #[.agg #[.int .i64 0, .slice none 0 0], .bool false]) (by simp [results, Try.results30, go_sem, *]) rfl (NP.out _ HW.out ((L6.setCell (by dsimp only; omega) _).setCell (by dsimp only; omega) _))
    · have t2' : labOk bb nb fb gb = false := by simpa using t2
      have HW : Hid (OK = false) := by show _ = _; rw [HMO.out, t2']; simp
      clear t2
      go_wp2
      exact bodyPost_ret (v := .tuple #[.agg #[.int .i64 0, .slice none 0 0], .bool false]) (by simp [results, Try.results30, go_sem, *]) rfl (NP.out _ HW.out ((L2.setCell (by dsimp only; omega) _).setCell (by dsimp only; omega) _))
  · have t1' : labOk ba na fa ga = false := by simpa using t1
    have HW : Hid (OK = false) := by show _ = _; rw [HMO.out, t1']; simp
    have lY := Y1.lt
    clear t1
    go_wp2
    exact bodyPost_ret (v := .tuple #[.agg #[.int .i64 0, .slice none 0 0], .bool false]) (by simp [results, Try.results30, go_sem, *]) rfl (NP.out _ HW.out ((L1.setCell (by dsimp only; omega) _).setCell (by dsimp only; omega) _))
end Go.Proofs.Ytjmfaffghkclbaa
