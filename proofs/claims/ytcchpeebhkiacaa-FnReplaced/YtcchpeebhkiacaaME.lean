/- Sync: the model. -/
import Derived.Test.YtcchpeebhkiacaaMD
namespace Go.Proofs.Ytcchpeebhkiacaa
open Go Go.RowKit Go.Deep Go.Maps

def syncL (d : DiskV) : List FileV := if dkOk d = true then d.live.toL else []
theorem disk_results {F : Func} (tmps : Array Value) (W : World) (P : Nat) (x y z : Value) (hF : F.results = #[.cell 2 27]) (h : Blk W P (.cells #[x, y, z] 27)) (h2 : tmps[2]? = some (.pointer (some ⟨P, 0, none⟩))) :
    (results F tmps).run Try.prog W = .ok (.agg #[x, y, z]) W := by
  obtain ⟨z0, z1, z2⟩ := h.three
  simp [results, hF, go_sem, h2, z0, z1, z2]
theorem two_boxes (w : World) (c1 c2 : Obj) : Blk ((w.alloc c1).alloc c2) w.heap.size c1 ∧ Blk ((w.alloc c1).alloc c2) (w.heap.size + 1) c2 ∧ Below w.heap.size w ((w.alloc c1).alloc c2) := by
  refine ⟨(Blk.new w c1).alloc c2, ?_, ((Below.refl _ w).alloc (Nat.le_refl _) _).alloc (by simp) _⟩
  have := Blk.new (w.alloc c1) c2
  simpa using this
set_option maxRecDepth 100000 in
set_option maxHeartbeats 4000000 in
theorem specSync_ap (d : DiskV) (w : World) (hd : d.at w) (hs : d.sz ≤ 1048576) :
    Calls Try.prog 46 #[d.val] w fun e w' => ∃ vl vs vo, e = .returned (.agg #[vl, vs, vo]) ∧ AnsS w' w.heap.size vl vs vo (syncL d) (syncL d) [] ∧ Below w.heap.size w w' ∧ Apt vl vs := by
  obtain ⟨A0, R0, b0⟩ := two_boxes w (.cells #[.slice d.live.a d.live.n d.live.k, .slice d.safe.a d.safe.n d.safe.k, .slice d.ops.a d.ops.n d.ops.k] 27) (.cells #[.slice none 0 0, .slice none 0 0, .slice none 0 0] 27)
  have HD := hid hd
  have n0 : d.live.n ≤ 1048576 := (DiskV.small_of hs).1
  have C1 := hid (specDisk_any d _ (hd.below b0) hs)
  unfold DiskV.val at C1 ⊢
  obtain ⟨x0, x1, x2⟩ := A0.three
  clear hd hs
  go_enter Try.func46, Try.ntmps46
  go_wp2_with fail
  refine C1.out.mono ?_
  rintro e w1 ⟨rfl, hb1⟩
  have A1 := A0.below hb1
  have R1 := R0.below hb1
  have B1 := then_ b0 hb1
  clear x0 x1 x2 C1 A0 R0 b0 hb1
  obtain ⟨x0, x1, x2⟩ := A1.three
  obtain ⟨r0, r1, r2⟩ := R1.three
  have rw1 := R1.warm
  cases t1 : dkOk d with
  | false =>
    have E : Hid (syncL d = []) := hid (by rw [syncL, if_neg (by rw [t1]; decide)])
    go_wp2
    refine bodyPost_ret (disk_results _ _ (w.heap.size + 1) (.slice none 0 0) (.slice none 0 0) (.slice none 0 0) Try.results46 (((R1.setAt (i := 0) _).setAt (i := 1) _).setAt (i := 2) _) rfl) rfl ⟨_, _, _, rfl, ?_, ?_, .inl ⟨none, rfl⟩⟩
    · rw [E.out]
      exact AnsS.none _ _
    · iterate 3 refine Below.setCell ?_ (by dsimp only; omega) _
      exact B1
  | true =>
    have E : Hid (syncL d = d.live.toL) := hid (by rw [syncL, if_pos t1])
    have TB : Hid (∀ W, Below w1.heap.size w1 W → FilesAt W d.live.a d.live.n d.live.f) := hid (fun W hW => (HD.out.1.2.1.below B1).below hW)
    have AB : Hid (∀ W, Below w1.heap.size w1 W → W.cell? ⟨w.heap.size, 0, none⟩ = some (.slice d.live.a d.live.n d.live.k)) := hid (fun W hW => (A1.below hW).three.1)
    have RB : Hid (∀ W, Below w1.heap.size w1 W → Blk W (w.heap.size + 1) (.cells #[.slice none 0 0, .slice none 0 0, .slice none 0 0] 27)) := hid (fun W hW => R1.below hW)
    have H1 := hid (below_drew ((Below.refl _ w1).alloc (Nat.le_refl _) (.cells #[] 56)))
    have H2 := hid (below_drew (((Below.refl _ w1).alloc (Nat.le_refl _) (.cells #[] 56)).alloc (by simp) (.cells #[] 56)))
    have HB := hid B1
    have lA := A1.lt
    have lR : Hid (w.heap.size + 1 < w1.heap.size) := hid R1.lt
    have lm : d.live.n ≤ 2000000 := by omega
    have y0 := AB.out _ H1.out
    have y1 := AB.out _ H2.out
    have ln : ¬ w.heap.size = w1.heap.size := by omega
    clear t1 A1 R1 B1 r0 r1 r2 rw1 x1 x2
    go_wp2_with fail
    have ne1 : ¬ w.heap.size + 1 = w.heap.size := by omega
    have ne2 : ¬ w.heap.size = w.heap.size + 1 := by omega
    have F1 := hid (TB.out _ H1.out)
    have F2 := hid (TB.out _ H2.out)
    go_region_held3 (fun w' => w'.cell? ⟨w.heap.size, 0, none⟩ = some (.slice d.live.a d.live.n d.live.k)) (first | go_keep | (simp only [*])) (first
      | (have mq := mk3; refine step_zeroF (by rfl) _ _ (by rfl) _ (by rfl) d.live.a d.live.n d.live.k d.live.f (by rfl) (by first | with_reducible exact FA.out | with_reducible exact FB.out) lm ?_; intro a5 c5 w5 f5 b5; have K5 : Hid (Below w1.heap.size w1 w5) := hid (by first | with_reducible exact then_ K3.out b5 | with_reducible exact then_ K4.out b5); have F5 : Hid (ZF w5 w1.heap.size (.slice a5 d.live.n c5) ((List.range d.live.n).map d.live.f)) := hid (by first | with_reducible exact f5.base K3.out.size | with_reducible exact f5.base K4.out.size); have G5 : Hid (ZF w5 w1.heap.size (.slice a3 d.live.n c3) ((List.range d.live.n).map d.live.f)) := hid (by first | with_reducible exact F3.out.below b5 | with_reducible exact (F3.out.below ((Below.refl _ w3).alloc (Nat.le_refl _) _)).below b5); have y5 := AB.out _ K5.out; have R5 := hid (RB.out _ K5.out); obtain ⟨r0, r1, r2⟩ := R5.out.three; have rf := R5.out.warm; have AP : Hid (Apt (.slice a3 d.live.n c3) (.slice a5 d.live.n c5)) := hid (by first | with_reducible exact zf_apt F3.out f5 | with_reducible exact zf_apt (F3.out.below ((Below.refl _ w3).alloc (Nat.le_refl _) _)) f5); clear f5 b5)
      | (refine step_zeroF (by rfl) _ _ (by rfl) _ (by rfl) d.live.a d.live.n d.live.k d.live.f (by rfl) (by first | with_reducible exact F1.out | with_reducible exact F2.out) lm ?_; intro a3 c3 w3 f3 b3; have F3 : Hid (ZF w3 w1.heap.size (.slice a3 d.live.n c3) ((List.range d.live.n).map d.live.f)) := hid (by first | with_reducible exact f3.base H1.out.size | with_reducible exact f3.base H2.out.size); have K3 : Hid (Below w1.heap.size w1 w3) := hid (by first | with_reducible exact then_ H1.out b3 | with_reducible exact then_ H2.out b3); have K4 : Hid (Below w1.heap.size w1 (w3.alloc (.cells #[] 56))) := hid (K3.out.alloc K3.out.size _); have y3 := AB.out _ K3.out; have y4 := AB.out _ K4.out; have FA := hid (TB.out _ K3.out); have FB := hid (TB.out _ K4.out); have mk3 : True := trivial; clear f3 b3))
    all_goals (
      have KE := hid (then_ HB.out K5.out)
      have hsz : w.heap.size + 1 < w5.heap.size := R5.out.lt
      have S5 := hid (((R5.out.setAt (i := 0) (.slice a3 d.live.n c3)).setAt (i := 1) (.slice a5 d.live.n c5)).setAt (i := 2) (.slice none 0 0))
      clear r0 r1 r2 rf y0 y1
      go_wp2
      refine bodyPost_ret (disk_results _ _ (w.heap.size + 1) (.slice a3 d.live.n c3) (.slice a5 d.live.n c5) (.slice none 0 0) Try.results46 S5.out rfl) rfl ⟨_, _, _, rfl, ?_, ?_, AP.out⟩
      · rw [E.out]
        exact (AnsS.base ⟨G5.out, F5.out, .inl (OwnO.nil _ _)⟩ HB.out.size).set3 R5.out _ _ _
      · iterate 3 refine Below.setCell ?_ (by dsimp only; omega) _
        exact KE.out)
theorem specSync_any (d : DiskV) (w : World) (hd : d.at w) (hs : d.sz ≤ 1048576) :
    Calls Try.prog 46 #[d.val] w fun e w' => ∃ vl vs vo, e = .returned (.agg #[vl, vs, vo]) ∧ AnsS w' w.heap.size vl vs vo (syncL d) (syncL d) [] ∧ Below w.heap.size w w' :=
  (specSync_ap d w hd hs).mono fun _ _ ⟨vl, vs, vo, h1, h2, h3, _⟩ => ⟨vl, vs, vo, h1, h2, h3⟩
end Go.Proofs.Ytcchpeebhkiacaa
