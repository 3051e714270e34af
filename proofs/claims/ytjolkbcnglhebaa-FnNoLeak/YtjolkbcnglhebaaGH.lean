/- FnNoLeak: the walk: the law answers true at every code that came in, and writes nothing that was there. -/
import Derived.Test.YtjolkbcnglhebaaGF
import Derived.Test.YtjolkbcnglhebaaFK
import Derived.Test.YtjolkbcnglhebaaRG
import Derived.Test.YtjolkbcnglhebaaX
namespace Go.Proofs.Ytjolkbcnglhebaa
open Go.RowKit Go.Deep Go.Maps

set_option maxRecDepth 100000 in
set_option maxHeartbeats 8000000 in
theorem noLeak_walk (a : Option Addr) (n cap : Nat) (w : World) (hb : BytesAt w a n) :
    Calls Try.prog 5 #[.slice a n cap] w fun e w' => e = .returned (.bool true) ∧ Below w.heap.size w w' := by
  have HB : Hid (BytesAt w a n) := hb
  clear hb
  go_enter Try.func5, Try.ntmps5
  go_wp2_with fail
  refine (big_any _ _ _ _).mono ?_
  rintro e w1 ⟨rfl, rfl⟩
  by_cases hn : 1048576 < n
  · have hn' : decide (1048576 < n) = true := by simpa using hn
    rw [hn']
    go_wp2
    go_ret
    exact ⟨rfl, Below.refl _ _⟩
  · have hn' : decide (1048576 < n) = false := by simpa using hn
    rw [hn']
    have hn1 : n ≤ 1048576 := by omega
    clear hn hn'
    go_wp2_with fail
    refine (drawSees_any a n cap _ hn1 HB.out).mono ?_
    rintro e w2 ⟨id, made, b1, l1, a1, c1, b2, o, A, oc, bl, ll, al, cl, rfl, k1, k2, ko, hgo, C1, CO, CL, E2⟩
    have XT : Blk ((w2.alloc (.cells #[.int .i64 id, .int .i64 b1, .slice a1 l1.length c1, .int .i64 b2, .slice none 0 0, .slice (some A) o.length oc, .int .i64 made] 39)).alloc (.cells #[.int .i64 bl, .slice al ll.length cl] 26)) w2.heap.size (.cells #[.int .i64 id, .int .i64 b1, .slice a1 l1.length c1, .int .i64 b2, .slice none 0 0, .slice (some A) o.length oc, .int .i64 made] 39) := (Blk.new _ _).alloc _
    have XL : Blk ((w2.alloc (.cells #[.int .i64 id, .int .i64 b1, .slice a1 l1.length c1, .int .i64 b2, .slice none 0 0, .slice (some A) o.length oc, .int .i64 made] 39)).alloc (.cells #[.int .i64 bl, .slice al ll.length cl] 26)) (w2.heap.size + 1) (.cells #[.int .i64 bl, .slice al ll.length cl] 26) := by
      have := Blk.new (w2.alloc (.cells #[.int .i64 id, .int .i64 b1, .slice a1 l1.length c1, .int .i64 b2, .slice none 0 0, .slice (some A) o.length oc, .int .i64 made] 39)) (.cells #[.int .i64 bl, .slice al ll.length cl] 26)
      simpa using this
    have K2 : Below w2.heap.size w2 ((w2.alloc (.cells #[.int .i64 id, .int .i64 b1, .slice a1 l1.length c1, .int .i64 b2, .slice none 0 0, .slice (some A) o.length oc, .int .i64 made] 39)).alloc (.cells #[.int .i64 bl, .slice al ll.length cl] 26)) := ((Below.refl _ _).alloc (Nat.le_refl _) _).alloc (by simp) _
    go_wp2_with fail
    generalize (w2.alloc (.cells #[.int .i64 id, .int .i64 b1, .slice a1 l1.length c1, .int .i64 b2, .slice none 0 0, .slice (some A) o.length oc, .int .i64 made] 39)).alloc (.cells #[.int .i64 bl, .slice al ll.length cl] 26) = W2 at *
    have E2' : Below w1.heap.size w1 W2 := E2.trans (K2.mono E2.size)
    refine (drawText_any a n cap _ hn1 (HB.out.below E2')).mono ?_
    rintro e w3 ⟨b3, l3, a3, c3, rfl, k3, C3, E3⟩
    have K3 := (Below.refl _ w3).alloc (Nat.le_refl _) (.cells #[.int .i64 b3, .slice a3 l3.length c3] 26)
    have YT := (XT.below E3).below K3
    have YL := (XL.below E3).below K3
    have YO := Blk.new w3 (.cells #[.int .i64 b3, .slice a3 l3.length c3] 26)
    have D1 := ((C1.below K2).below E3).below K3
    have DL := ((CL.below K2).below E3).below K3
    have DO := ((CO.below K2).below E3).below K3
    have D3 := C3.below K3
    have EV : Below w1.heap.size w1 (w3.alloc (.cells #[.int .i64 b3, .slice a3 l3.length c3] 26)) := (E2'.trans (E3.mono E2'.size)).alloc (Nat.le_trans E2'.size E3.size) _
    clear XT XL C1 CO CL C3 E2 E2' E3 K2 K3 HB
    obtain ⟨x0, x1, x2, x3, x4, x5, x6⟩ := YT.seven
    obtain ⟨x7, x8⟩ := YL.two
    go_wp2_with fail
    clear x0 x1 x2 x3 x4 x5 x6 x7 x8
    generalize w3.alloc (.cells #[.int .i64 b3, .slice a3 l3.length c3] 26) = V at *
    generalize w2.heap.size = PT at *
    generalize PT + 1 = PL at *
    generalize w3.heap.size = PO at *
    have cells : ∀ W, Below V.heap.size V W → W.cell? ⟨PT, 0, none⟩ = some (.int .i64 id) ∧ W.cell? ⟨PT, 1, none⟩ = some (.int .i64 b1) ∧ W.cell? ⟨PT, 2, none⟩ = some (.slice a1 l1.length c1) ∧ W.cell? ⟨PT, 3, none⟩ = some (.int .i64 b2) ∧ W.cell? ⟨PT, 4, none⟩ = some (.slice none 0 0) ∧ W.cell? ⟨PT, 5, none⟩ = some (.slice (some A) o.length oc) ∧ W.cell? ⟨PT, 6, none⟩ = some (.int .i64 made) ∧ W.cell? ⟨PL, 0, none⟩ = some (.int .i64 bl) ∧ W.cell? ⟨PL, 1, none⟩ = some (.slice al ll.length cl) ∧ W.cell? ⟨PO, 0, none⟩ = some (.int .i64 b3) ∧ W.cell? ⟨PO, 1, none⟩ = some (.slice a3 l3.length c3) := fun W hW => by
      obtain ⟨y0, y1, y2, y3, y4, y5, y6⟩ := (YT.below hW).seven
      exact ⟨y0, y1, y2, y3, y4, y5, y6, (YL.below hW).two.1, (YL.below hW).two.2, (YO.below hW).two.1, (YO.below hW).two.2⟩
    have HC : Hid (∀ W, Below V.heap.size V W → W.cell? ⟨PT, 0, none⟩ = some (.int .i64 id) ∧ W.cell? ⟨PT, 1, none⟩ = some (.int .i64 b1) ∧ W.cell? ⟨PT, 2, none⟩ = some (.slice a1 l1.length c1) ∧ W.cell? ⟨PT, 3, none⟩ = some (.int .i64 b2) ∧ W.cell? ⟨PT, 4, none⟩ = some (.slice none 0 0) ∧ W.cell? ⟨PT, 5, none⟩ = some (.slice (some A) o.length oc) ∧ W.cell? ⟨PT, 6, none⟩ = some (.int .i64 made) ∧ W.cell? ⟨PL, 0, none⟩ = some (.int .i64 bl) ∧ W.cell? ⟨PL, 1, none⟩ = some (.slice al ll.length cl) ∧ W.cell? ⟨PO, 0, none⟩ = some (.int .i64 b3) ∧ W.cell? ⟨PO, 1, none⟩ = some (.slice a3 l3.length c3)) := cells
    have Is : Hid (∀ W : World, Below V.heap.size V W → Calls Try.prog 22 #[.agg #[.int .i64 id, .int .i64 b1, .slice a1 l1.length c1, .int .i64 b2, .slice none 0 0, .slice (some A) o.length oc, .int .i64 made], .agg #[.int .i64 bl, .slice al ll.length cl]] W fun e w' => e = .returned (.bool (seesB id made b1 l1.length (fstAt l1) (sndAt l1) b2 0 (fun _ => 0) (fun _ => 0) o.length (numAt o) bl ll.length (fstAt ll) (sndAt ll))) ∧ Below W.heap.size W w') := fun W hW => implSees_any _ _ _ _ _ _ (fstAt l1) (sndAt l1) _ _ _ _ (fun _ => 0) (fun _ => 0) _ _ _ (numAt o) _ _ _ _ (fstAt ll) (sndAt ll) _ (by unfold maxLen; omega) (by unfold maxLen; omega) (by unfold maxLen; omega) (D1.below hW) (fun h => by omega) (DO.below hW).ints (by unfold maxLen; omega) (DL.below hW)
    have Ic : Hid (∀ W : World, Below V.heap.size V W → Calls Try.prog 23 #[.agg #[.int .i64 id, .int .i64 b1, .slice a1 l1.length c1, .int .i64 b2, .slice none 0 0, .slice (some A) o.length oc, .int .i64 made], .agg #[.int .i64 bl, .slice al ll.length cl]] W fun e w' => e = .returned (.bool (changesB id made b1 l1.length (fstAt l1) (sndAt l1) b2 0 (fun _ => 0) (fun _ => 0) o.length (numAt o) bl ll.length (fstAt ll) (sndAt ll))) ∧ Below W.heap.size W w') := fun W hW => implChanges_any _ _ _ _ _ _ (fstAt l1) (sndAt l1) _ _ _ _ (fun _ => 0) (fun _ => 0) _ _ _ (numAt o) _ _ _ _ (fstAt ll) (sndAt ll) _ (by unfold maxLen; omega) (by unfold maxLen; omega) (by unfold maxLen; omega) (D1.below hW) (fun h => by omega) (DO.below hW).ints (by unfold maxLen; omega) (DL.below hW)
    have Ir : Hid (∀ W : World, Below V.heap.size V W → Calls Try.prog 24 #[.agg #[.int .i64 id, .int .i64 b1, .slice a1 l1.length c1, .int .i64 b2, .slice none 0 0, .slice (some A) o.length oc, .int .i64 made], .agg #[.int .i64 b3, .slice a3 l3.length c3]] W fun e w' => e = .returned (.bool (reachB id made b1 l1.length (fstAt l1) (sndAt l1) b2 0 (fun _ => 0) (fun _ => 0) o.length (numAt o) b3 l3.length (fstAt l3) (sndAt l3))) ∧ Below W.heap.size W w') := fun W hW => implReaches_any _ _ _ _ _ _ (fstAt l1) (sndAt l1) _ _ _ _ (fun _ => 0) (fun _ => 0) _ _ _ (numAt o) _ _ _ _ (fstAt l3) (sndAt l3) _ (by unfold maxLen; omega) (by unfold maxLen; omega) (by unfold maxLen; omega) (D1.below hW) (fun h => by omega) (DO.below hW).ints (by unfold maxLen; omega) (D3.below hW)
    have Ss : Hid (∀ W : World, Below V.heap.size V W → Calls Try.prog 25 #[.agg #[.int .i64 id, .int .i64 b1, .slice a1 l1.length c1, .int .i64 b2, .slice none 0 0, .slice (some A) o.length oc, .int .i64 made], .agg #[.int .i64 bl, .slice al ll.length cl]] W fun e w' => e = .returned (.bool (seesB id made b1 l1.length (fstAt l1) (sndAt l1) b2 0 (fun _ => 0) (fun _ => 0) o.length (numAt o) bl ll.length (fstAt ll) (sndAt ll))) ∧ Below W.heap.size W w') := fun W hW => specSees_any _ _ _ _ _ _ (fstAt l1) (sndAt l1) _ _ _ _ (fun _ => 0) (fun _ => 0) _ _ _ (numAt o) _ _ _ _ (fstAt ll) (sndAt ll) _ (by unfold maxLen; omega) (by unfold maxLen; omega) (by unfold maxLen; omega) (D1.below hW) (fun h => by omega) (DO.below hW).ints (by unfold maxLen; omega) (DL.below hW)
    have Sc : Hid (∀ W : World, Below V.heap.size V W → Calls Try.prog 26 #[.agg #[.int .i64 id, .int .i64 b1, .slice a1 l1.length c1, .int .i64 b2, .slice none 0 0, .slice (some A) o.length oc, .int .i64 made], .agg #[.int .i64 bl, .slice al ll.length cl]] W fun e w' => e = .returned (.bool (changesB id made b1 l1.length (fstAt l1) (sndAt l1) b2 0 (fun _ => 0) (fun _ => 0) o.length (numAt o) bl ll.length (fstAt ll) (sndAt ll))) ∧ Below W.heap.size W w') := fun W hW => specChanges_any _ _ _ _ _ _ (fstAt l1) (sndAt l1) _ _ _ _ (fun _ => 0) (fun _ => 0) _ _ _ (numAt o) _ _ _ _ (fstAt ll) (sndAt ll) _ (by unfold maxLen; omega) (by unfold maxLen; omega) (by unfold maxLen; omega) (D1.below hW) (fun h => by omega) (DO.below hW).ints (by unfold maxLen; omega) (DL.below hW)
    have Sr : Hid (∀ W : World, Below V.heap.size V W → Calls Try.prog 27 #[.agg #[.int .i64 id, .int .i64 b1, .slice a1 l1.length c1, .int .i64 b2, .slice none 0 0, .slice (some A) o.length oc, .int .i64 made], .agg #[.int .i64 b3, .slice a3 l3.length c3]] W fun e w' => e = .returned (.bool (reachB id made b1 l1.length (fstAt l1) (sndAt l1) b2 0 (fun _ => 0) (fun _ => 0) o.length (numAt o) b3 l3.length (fstAt l3) (sndAt l3))) ∧ Below W.heap.size W w') := fun W hW => specReaches_any _ _ _ _ _ _ (fstAt l1) (sndAt l1) _ _ _ _ (fun _ => 0) (fun _ => 0) _ _ _ (numAt o) _ _ _ _ (fstAt l3) (sndAt l3) _ (by unfold maxLen; omega) (by unfold maxLen; omega) (by unfold maxLen; omega) (D1.below hW) (fun h => by omega) (DO.below hW).ints (by unfold maxLen; omega) (D3.below hW)
    have Lq : Hid (∀ W : World, Below V.heap.size V W → Calls Try.prog 20 #[.agg #[.int .i64 bl, .slice al ll.length cl], .agg #[.int .i64 b3, .slice a3 l3.length c3]] W fun e w' => e = .returned (.bool (leqB bl ll.length (fstAt ll) (sndAt ll) b3 l3.length (fstAt l3) (sndAt l3))) ∧ Below W.heap.size W w') := fun W hW => implLeq_any _ _ _ _ _ _ _ _ _ _ _ _ _ (by unfold maxLen; omega) (by unfold maxLen; omega) (DL.below hW) (D3.below hW)
    have H1 : Hid (changesB id made b1 l1.length (fstAt l1) (sndAt l1) b2 0 (fun _ => 0) (fun _ => 0) o.length (numAt o) bl ll.length (fstAt ll) (sndAt ll) = true → seesB id made b1 l1.length (fstAt l1) (sndAt l1) b2 0 (fun _ => 0) (fun _ => 0) o.length (numAt o) bl ll.length (fstAt ll) (sndAt ll) = true) := changes_sees
    have H2 : Hid (changesB id made b1 l1.length (fstAt l1) (sndAt l1) b2 0 (fun _ => 0) (fun _ => 0) o.length (numAt o) bl ll.length (fstAt ll) (sndAt ll) = true → leqB bl ll.length (fstAt ll) (sndAt ll) b3 l3.length (fstAt l3) (sndAt l3) = true → reachB id made b1 l1.length (fstAt l1) (sndAt l1) b2 0 (fun _ => 0) (fun _ => 0) o.length (numAt o) b3 l3.length (fstAt l3) (sndAt l3) = true) := noLeak_felt
    have H3 : Hid (o.length = 0 → seesB id made b1 l1.length (fstAt l1) (sndAt l1) b2 0 (fun _ => 0) (fun _ => 0) o.length (numAt o) bl ll.length (fstAt ll) (sndAt ll) = true → reachB id made b1 l1.length (fstAt l1) (sndAt l1) b2 0 (fun _ => 0) (fun _ => 0) o.length (numAt o) b3 l3.length (fstAt l3) (sndAt l3) = true → leqB bl ll.length (fstAt ll) (sndAt ll) b3 l3.length (fstAt l3) (sndAt l3) = true) := noLeak_seen
    generalize changesB id made b1 l1.length (fstAt l1) (sndAt l1) b2 0 (fun _ => 0) (fun _ => 0) o.length (numAt o) bl ll.length (fstAt ll) (sndAt ll) = p at *
    generalize seesB id made b1 l1.length (fstAt l1) (sndAt l1) b2 0 (fun _ => 0) (fun _ => 0) o.length (numAt o) bl ll.length (fstAt ll) (sndAt ll) = s at *
    generalize reachB id made b1 l1.length (fstAt l1) (sndAt l1) b2 0 (fun _ => 0) (fun _ => 0) o.length (numAt o) b3 l3.length (fstAt l3) (sndAt l3) = r at *
    generalize leqB bl ll.length (fstAt ll) (sndAt ll) b3 l3.length (fstAt l3) (sndAt l3) = q at *
    clear cells YT YL YO D1 DL DO D3
    have E0 := Below.refl V.heap.size V
    refine (Is.out _ E0).mono ?_
    rintro e V1 ⟨rfl, hb1⟩
    have E1 := E0.trans (hb1.mono E0.size)
    clear hb1 E0
    obtain ⟨z0, z1, z2, z3, z4, z5, z6, z7, z8, z9, z10⟩ := HC.out _ E1
    go_wp2_with fail
    refine (Ic.out _ E1).mono ?_
    rintro e V2 ⟨rfl, hb2⟩
    have E2 := E1.trans (hb2.mono E1.size)
    clear hb2 E1 z0 z1 z2 z3 z4 z5 z6 z7 z8 z9 z10
    obtain ⟨z0, z1, z2, z3, z4, z5, z6, z7, z8, z9, z10⟩ := HC.out _ E2
    go_wp2_with fail
    refine (Ir.out _ E2).mono ?_
    rintro e V3 ⟨rfl, hb3⟩
    have E3 := E2.trans (hb3.mono E2.size)
    clear hb3 E2 z0 z1 z2 z3 z4 z5 z6 z7 z8 z9 z10
    obtain ⟨z0, z1, z2, z3, z4, z5, z6, z7, z8, z9, z10⟩ := HC.out _ E3
    go_wp2_with fail
    refine (Ss.out _ E3).mono ?_
    rintro e V4 ⟨rfl, hb4⟩
    have E4 := E3.trans (hb4.mono E3.size)
    clear hb4 E3 z0 z1 z2 z3 z4 z5 z6 z7 z8 z9 z10
    obtain ⟨z0, z1, z2, z3, z4, z5, z6, z7, z8, z9, z10⟩ := HC.out _ E4
    go_wp2_with fail
    refine (Sc.out _ E4).mono ?_
    rintro e V5 ⟨rfl, hb5⟩
    have E5 := E4.trans (hb5.mono E4.size)
    clear hb5 E4 z0 z1 z2 z3 z4 z5 z6 z7 z8 z9 z10
    obtain ⟨z0, z1, z2, z3, z4, z5, z6, z7, z8, z9, z10⟩ := HC.out _ E5
    go_wp2_with fail
    refine (Sr.out _ E5).mono ?_
    rintro e V6 ⟨rfl, hb6⟩
    have E6 := E5.trans (hb6.mono E5.size)
    clear hb6 E5 z0 z1 z2 z3 z4 z5 z6 z7 z8 z9 z10
    cases p with
    | true =>
      obtain rfl : s = true := H1.out (by simp)
      obtain ⟨z0, z1, z2, z3, z4, z5, z6, z7, z8, z9, z10⟩ := HC.out _ E6
      go_wp2_with fail
      refine (Lq.out _ E6).mono ?_
      rintro e V7 ⟨rfl, hb7⟩
      have E7 := E6.trans (hb7.mono E6.size)
      clear hb7 E6 z0 z1 z2 z3 z4 z5 z6 z7 z8 z9 z10
      cases q with
      | true =>
        obtain rfl : r = true := H2.out (by simp) (by simp)
        by_cases hl : o.length = 0
        · have hq := H3.out hl (by simp) (by simp)
          have hl' : (o.length : Int) = 0 := by omega
          clear hq
          obtain ⟨z0, z1, z2, z3, z4, z5, z6, z7, z8, z9, z10⟩ := HC.out _ E7
          go_wp2_with fail
          refine (Lq.out _ E7).mono ?_
          rintro e V8 ⟨rfl, hb8⟩
          have E8 := E7.trans (hb8.mono E7.size)
          clear hb8 E7 z0 z1 z2 z3 z4 z5 z6 z7 z8 z9 z10
          obtain ⟨z0, z1, z2, z3, z4, z5, z6, z7, z8, z9, z10⟩ := HC.out _ E8
          go_wp2
          go_ret
          exact ⟨rfl, EV.trans (E8.mono EV.size)⟩
        · have hl' : (0 : Int) < (o.length : Int) := by omega
          obtain ⟨z0, z1, z2, z3, z4, z5, z6, z7, z8, z9, z10⟩ := HC.out _ E7
          go_wp2
          go_ret
          exact ⟨rfl, EV.trans (E7.mono EV.size)⟩
      | false =>
        cases r with
        | true =>
          by_cases hl : o.length = 0
          · have hq := H3.out hl (by simp) (by simp)
            have hl' : (o.length : Int) = 0 := by omega
            cases hq
          · have hl' : (0 : Int) < (o.length : Int) := by omega
            obtain ⟨z0, z1, z2, z3, z4, z5, z6, z7, z8, z9, z10⟩ := HC.out _ E7
            go_wp2
            go_ret
            exact ⟨rfl, EV.trans (E7.mono EV.size)⟩
        | false =>
          obtain ⟨z0, z1, z2, z3, z4, z5, z6, z7, z8, z9, z10⟩ := HC.out _ E7
          go_wp2
          go_ret
          exact ⟨rfl, EV.trans (E7.mono EV.size)⟩
    | false =>
      cases s with
      | false =>
        obtain ⟨z0, z1, z2, z3, z4, z5, z6, z7, z8, z9, z10⟩ := HC.out _ E6
        go_wp2
        go_ret
        exact ⟨rfl, EV.trans (E6.mono EV.size)⟩
      | true =>
        cases r with
        | false =>
          obtain ⟨z0, z1, z2, z3, z4, z5, z6, z7, z8, z9, z10⟩ := HC.out _ E6
          go_wp2
          go_ret
          exact ⟨rfl, EV.trans (E6.mono EV.size)⟩
        | true =>
          by_cases hl : o.length = 0
          · obtain rfl : q = true := H3.out hl (by simp) (by simp)
            have hl' : (o.length : Int) = 0 := by omega
            obtain ⟨z0, z1, z2, z3, z4, z5, z6, z7, z8, z9, z10⟩ := HC.out _ E6
            go_wp2_with fail
            refine (Lq.out _ E6).mono ?_
            rintro e V7 ⟨rfl, hb7⟩
            have E7 := E6.trans (hb7.mono E6.size)
            clear hb7 E6 z0 z1 z2 z3 z4 z5 z6 z7 z8 z9 z10
            obtain ⟨z0, z1, z2, z3, z4, z5, z6, z7, z8, z9, z10⟩ := HC.out _ E7
            go_wp2
            go_ret
            exact ⟨rfl, EV.trans (E7.mono EV.size)⟩
          · have hl' : (0 : Int) < (o.length : Int) := by omega
            obtain ⟨z0, z1, z2, z3, z4, z5, z6, z7, z8, z9, z10⟩ := HC.out _ E6
            go_wp2
            go_ret
            exact ⟨rfl, EV.trans (E6.mono EV.size)⟩
end Go.Proofs.Ytjolkbcnglhebaa
