/- l11Copy. -/
import Derived.Test.YtcchpeebhkiacaaMF
namespace Go.Proofs.Ytcchpeebhkiacaa
open Go Go.RowKit Go.Deep Go.Maps

theorem bA {V W : World} (h : Below V.heap.size V W) (o : Obj) : Below V.heap.size V (W.alloc o) := h.alloc h.size o
theorem bD {V W : World} (h : Below V.heap.size V W) : Below V.heap.size V W.drew := h.drew
set_option maxRecDepth 100000 in
set_option maxHeartbeats 16000000 in
theorem l11Copy_any (d : DiskV) (w : World) (hd : d.at w) (hs : d.small) :
    Calls Try.prog 44 #[d.val] w fun e w' => ∃ vl vs vo, e = .returned (.agg #[vl, vs, vo]) ∧ AnsS w' w.heap.size vl vs vo d.live.toL d.safe.toL d.ops.toL ∧ Below w.heap.size w w' := by
  obtain ⟨A0, R0, b0⟩ := two_boxes w (.cells #[.slice d.live.a d.live.n d.live.k, .slice d.safe.a d.safe.n d.safe.k, .slice d.ops.a d.ops.n d.ops.k] 27) (.cells #[.slice none 0 0, .slice none 0 0, .slice none 0 0] 27)
  obtain ⟨n0, n1, n2⟩ := hs
  have HD := hid hd
  obtain ⟨x0, x1, x2⟩ := A0.three
  have A0' := hid A0
  have R0' := hid R0
  have HB0 := hid b0
  unfold DiskV.val
  clear hd
  go_enter Try.func44, Try.ntmps44
  go_wp2_with fail
  generalize ((w.alloc (.cells #[.slice d.live.a d.live.n d.live.k, .slice d.safe.a d.safe.n d.safe.k, .slice d.ops.a d.ops.n d.ops.k] 27)).alloc (.cells #[.slice none 0 0, .slice none 0 0, .slice none 0 0] 27)) = V at *
  have HV := hid (Below.refl V.heap.size V)
  have TL : Hid (∀ W, Below V.heap.size V W → FilesAt W d.live.a d.live.n d.live.f) := hid (fun W hW => (HD.out.1.2.1.below HB0.out).below hW)
  have TS : Hid (∀ W, Below V.heap.size V W → FilesAt W d.safe.a d.safe.n d.safe.f) := hid (fun W hW => (HD.out.2.1.2.1.below HB0.out).below hW)
  have TQ : Hid (∀ W, Below V.heap.size V W → DOpsAt W d.ops.a d.ops.n d.ops.f) := hid (fun W hW => (HD.out.2.2.2.1.below HB0.out).below hW)
  have AB : Hid (∀ W, Below V.heap.size V W → W.cell? ⟨w.heap.size, 0, none⟩ = some (.slice d.live.a d.live.n d.live.k) ∧ W.cell? ⟨w.heap.size, 1, none⟩ = some (.slice d.safe.a d.safe.n d.safe.k) ∧ W.cell? ⟨w.heap.size, 2, none⟩ = some (.slice d.ops.a d.ops.n d.ops.k)) := hid (fun W hW => (A0'.out.below hW).three)
  have RB : Hid (∀ W, Below V.heap.size V W → Blk W (w.heap.size + 1) (.cells #[.slice none 0 0, .slice none 0 0, .slice none 0 0] 27)) := hid (fun W hW => R0'.out.below hW)
  have l0 : d.live.n ≤ 2000000 := by omega
  have l1 : d.safe.n ≤ 2000000 := by omega
  have l2 : d.ops.n ≤ 2000000 := by omega
  have lA : w.heap.size + 1 < V.heap.size := R0.lt
  have LR := hid lA
  have ne1 : ¬ w.heap.size + 1 = w.heap.size := by omega
  have ne2 : ¬ w.heap.size = w.heap.size + 1 := by omega
  have nv0 : ¬ w.heap.size = V.heap.size := by omega
  have nv1 : ¬ w.heap.size = V.heap.size + 1 := by omega
  have nv2 : ¬ w.heap.size = V.heap.size + 1 + 1 := by omega
  clear A0 R0 b0 HD lA n0 n1 n2
  have mk1 : True := trivial
  go_region_held3 (fun w' => w'.cell? ⟨w.heap.size, 0, none⟩ = some (.slice d.live.a d.live.n d.live.k) ∧ w'.cell? ⟨w.heap.size, 1, none⟩ = some (.slice d.safe.a d.safe.n d.safe.k) ∧ w'.cell? ⟨w.heap.size, 2, none⟩ = some (.slice d.ops.a d.ops.n d.ops.k)) (first | exact AB.out _ (by first | with_reducible exact K5.out | with_reducible exact bA K5.out _ | with_reducible exact K3.out | with_reducible exact bA K3.out _ | with_reducible exact bA (bA K3.out _) _ | with_reducible exact bD (bA HV.out _) | with_reducible exact bD (bA (bA HV.out _) _) | with_reducible exact bD (bA (bA (bA HV.out _) _) _)) | go_keep | (simp only [*, and_self])) (first
    | (have mq := mk1; refine step_zeroF (by rfl) _ _ (by rfl) _ (by rfl) d.live.a d.live.n d.live.k d.live.f (by rfl) (TL.out _ (by first | with_reducible exact bD (bA HV.out _) | with_reducible exact bD (bA (bA HV.out _) _) | with_reducible exact bD (bA (bA (bA HV.out _) _) _))) l0 ?_; intro a3 c3 w3 f3 b3; have K3 : Hid (Below V.heap.size V w3) := hid (by first | with_reducible exact then_ (bD (bA HV.out _)) b3 | with_reducible exact then_ (bD (bA (bA HV.out _) _)) b3 | with_reducible exact then_ (bD (bA (bA (bA HV.out _) _) _)) b3); have F3 : Hid (ZF w3 V.heap.size (.slice a3 d.live.n c3) ((List.range d.live.n).map d.live.f)) := hid (by first | with_reducible exact f3.base (Below.size (bD (bA HV.out _))) | with_reducible exact f3.base (Below.size (bD (bA (bA HV.out _) _))) | with_reducible exact f3.base (Below.size (bD (bA (bA (bA HV.out _) _) _)))); obtain ⟨q0, q1, q2⟩ := AB.out _ K3.out; have m30 : ¬ w.heap.size = w3.heap.size := (fun e => absurd K3.out.size (by have := LR.out; omega)); have m31 : ¬ w.heap.size = w3.heap.size + 1 := (fun e => absurd K3.out.size (by have := LR.out; omega)); clear f3 b3 mk1 mq; have mk2 : True := trivial)
    | (have mq := mk2; refine step_zeroF (by rfl) _ _ (by rfl) _ (by rfl) d.safe.a d.safe.n d.safe.k d.safe.f (by rfl) (TS.out _ (by first | with_reducible exact K3.out | with_reducible exact bA K3.out _ | with_reducible exact bA (bA K3.out _) _)) l1 ?_; intro a5 c5 w5 f5 b5; have K5 : Hid (Below V.heap.size V w5) := hid (by first | with_reducible exact then_ (K3.out) b5 | with_reducible exact then_ (bA K3.out _) b5 | with_reducible exact then_ (bA (bA K3.out _) _) b5); have F5 : Hid (ZF w5 V.heap.size (.slice a5 d.safe.n c5) ((List.range d.safe.n).map d.safe.f)) := hid (by first | with_reducible exact f5.base (Below.size (K3.out)) | with_reducible exact f5.base (Below.size (bA K3.out _)) | with_reducible exact f5.base (Below.size (bA (bA K3.out _) _))); have G5 : Hid (ZF w5 V.heap.size (.slice a3 d.live.n c3) ((List.range d.live.n).map d.live.f)) := hid (F3.out.below (by first | with_reducible exact b5 | with_reducible exact then_ (bA (Below.refl _ w3) _) b5 | with_reducible exact then_ (bA (bA (Below.refl _ w3) _) _) b5)); obtain ⟨s0, s1, s2⟩ := AB.out _ K5.out; have m50 : ¬ w.heap.size = w5.heap.size := (fun e => absurd K5.out.size (by have := LR.out; omega)); clear f5 b5 mk2 mq; have mk3 : True := trivial)
    | (have mq := mk3; refine step_zeroO (by rfl) _ _ (by rfl) _ (by rfl) d.ops.a d.ops.n d.ops.k d.ops.f (by rfl) (TQ.out _ (by first | with_reducible exact K5.out | with_reducible exact bA K5.out _)) l2 ?_; intro a7 c7 w7 f7 b7; have K7 : Hid (Below V.heap.size V w7) := hid (by first | with_reducible exact then_ (K5.out) b7 | with_reducible exact then_ (bA K5.out _) b7); have F7 : Hid (ZO w7 V.heap.size (.slice a7 d.ops.n c7) ((List.range d.ops.n).map d.ops.f)) := hid (by first | with_reducible exact f7.base (Below.size (K5.out)) | with_reducible exact f7.base (Below.size (bA K5.out _))); have G7 : Hid (ZF w7 V.heap.size (.slice a3 d.live.n c3) ((List.range d.live.n).map d.live.f)) := hid (G5.out.below (by first | with_reducible exact b7 | with_reducible exact then_ (bA (Below.refl _ w5) _) b7)); have I7 : Hid (ZF w7 V.heap.size (.slice a5 d.safe.n c5) ((List.range d.safe.n).map d.safe.f)) := hid (F5.out.below (by first | with_reducible exact b7 | with_reducible exact then_ (bA (Below.refl _ w5) _) b7)); have R7 := hid (RB.out _ K7.out); obtain ⟨t0, t1, t2⟩ := AB.out _ K7.out; obtain ⟨u0, u1, u2⟩ := R7.out.three; have uf := R7.out.warm; clear f7 b7 mk3 mq))
  all_goals (
    have KE := hid (then_ HB0.out K7.out)
    have S7 := hid (((R7.out.setAt (i := 0) (.slice a3 d.live.n c3)).setAt (i := 1) (.slice a5 d.safe.n c5)).setAt (i := 2) (.slice a7 d.ops.n c7))
    clear x0 x1 x2 q0 q1 q2 s0 s1 s2 t0 t1 t2 u0 u1 u2 uf nv0 nv1 nv2 m30 m31 m50
    go_wp2
    refine bodyPost_ret (disk_results _ _ (w.heap.size + 1) _ _ _ Try.results44 S7.out rfl) rfl ⟨_, _, _, rfl, (AnsS.base ⟨G7.out, I7.out, F7.out⟩ HB0.out.size).set3 R7.out _ _ _, ?_⟩
    · iterate 3 refine Below.setCell ?_ (by dsimp only; omega) _
      exact KE.out)
end Go.Proofs.Ytcchpeebhkiacaa
