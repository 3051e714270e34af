/- doneOn. -/
import Derived.Test.YtcchpeebhkiacaaEB
namespace Go.Proofs.Ytcchpeebhkiacaa
open Go Go.RowKit Go.Deep Go.Maps

def codeL (M : List FileV) (o : OpV) : Int := if opForm o = false then 2 else if (doF M.length (fileAt M) o).2 = false then 3 else if okL (doF M.length (fileAt M) o).1 = true then 0 else 4
theorem codeL_form {M : List FileV} {o : OpV} (h : opForm o = false) : codeL M o = 2 := by rw [codeL, if_pos h]
theorem codeL_none {M : List FileV} {o : OpV} (h : opForm o = true) (h2 : (doF M.length (fileAt M) o).2 = false) : codeL M o = 3 := by rw [codeL, if_neg (by rw [h]; decide), if_pos h2]
theorem codeL_full {M : List FileV} {o : OpV} (h : opForm o = true) (h2 : (doF M.length (fileAt M) o).2 = true) (h3 : okL (doF M.length (fileAt M) o).1 = false) : codeL M o = 4 := by rw [codeL, if_neg (by rw [h]; decide), if_neg (by rw [h2]; decide), if_neg (by rw [h3]; decide)]
theorem codeL_ok {M : List FileV} {o : OpV} (h : opForm o = true) (h2 : (doF M.length (fileAt M) o).2 = true) (h3 : okL (doF M.length (fileAt M) o).1 = true) : codeL M o = 0 := by rw [codeL, if_neg (by rw [h]; decide), if_neg (by rw [h2]; decide), if_pos h3]
/-- what doneOn leaves -/
def DoneP (w : World) (B c n q : Nat) (M : List FileV) (o : OpV) (e : Ending) (w' : World) : Prop :=
  e = .returned (.int .i64 (codeL M o)) ∧ (codeL M o = 0 → SL w' B c (n + 1) (q + 1) (doF M.length (fileAt M) o).1) ∧ Below B w w'
structure PreD (o : OpV) (w : World) (B c n q : Nat) (M : List FileV) : Prop where
  sl : SL w B c n q M
  neat : Neat M
  wf : o.wf
  low : B ≤ w.heap.size
  n_lt : n < maxLen
  q_le : q ≤ 100000
  bytes : bytesL M + o.data.size ≤ 1000000000
  len : M.length < 1000000
theorem DoneP.no {w w' : World} {B c n q : Nat} {M : List FileV} {o : OpV} {k : Int} (h : codeL M o = k) (hk : k ≠ 0) (hb : Below B w w') : DoneP w B c n q M o (.returned (.int .i64 k)) w' :=
  ⟨by rw [h], fun h0 => absurd (h.symm.trans h0) hk, hb⟩

set_option maxRecDepth 100000 in
set_option maxHeartbeats 1000000 in
theorem done1_form (o : OpV) {w : World} {B c n q : Nat} {M : List FileV} (ho : o.wf) (k : o.kind = 1) (hf : opForm o = false) (hB : B ≤ w.heap.size) :
    Calls Try.prog 24 #[.map (some c), o.val] w fun e w' => DoneP w B c n q M o e w' := by
  have hcode := hid (codeL_form (M := M) (hf))
  have C : Hid (∀ W0, Calls Try.prog 48 #[o.val] W0 fun e w' => e = .returned (.tuple #[.iface 98 o.val, .bool false]) ∧ Below W0.heap.size W0 w') := hid (fun W0 => by
    have h := change1 o W0 ho k
    rw [hf] at h
    exact h)
  have b0 : Below w.heap.size w (w.alloc (.cells #[.int .i64 o.kind, .string o.name, .string o.to, .string o.data] 36)) := (Below.refl _ w).alloc (Nat.le_refl _) _
  clear k hf ho
  unfold OpV.val at C ⊢
  go_enter Try.func24, Try.ntmps24
  go_wp2_with (go_at_call 48; refine (C.out _).mono ?_; rintro e w1 ⟨rfl, hb1⟩)
  go_ret
  exact DoneP.no hcode.out (by decide) ((then_ b0 hb1).mono hB)

set_option maxRecDepth 100000 in
set_option maxHeartbeats 1000000 in
theorem done1_some (o : OpV) {w : World} {B c n q : Nat} {M : List FileV} (p : PreD o w B c n q M) (k : o.kind = 1) (hf : opForm o = true):
    Calls Try.prog 24 #[.map (some c), o.val] w fun e w' => DoneP w B c n q M o e w' := by
  obtain ⟨h, hM, ho, hB, hn, hq, hz, hl⟩ := p
  have C : Hid (∀ W0, Calls Try.prog 48 #[o.val] W0 fun e w' => e = .returned (.tuple #[.iface 98 o.val, .bool true]) ∧ Below W0.heap.size W0 w') := hid (fun W0 => by
    have h := change1 o W0 ho k
    rw [hf] at h
    exact h)
  have b0 : Below w.heap.size w (w.alloc (.cells #[.int .i64 o.kind, .string o.name, .string o.to, .string o.data] 36)) := (Below.refl _ w).alloc (Nat.le_refl _) _
  have F : Hid (∀ W, Below w.heap.size w W → Calls Try.prog 113 #[o.val, .map (some c)] W fun e w' => e = .returned (.bool true) ∧ Below W.heap.size W w') := hid (fun W _ => findsA o c W)
  have h2 : Hid ((doF M.length (fileAt M) o).2 = true) := hid (by rw [doF_one hM.rise k])
  have D : Hid (∀ W, Below w.heap.size w W → Calls Try.prog 112 #[o.val, .map (some c)] W fun e w' => e = .returned (.tuple #[]) ∧ SL w' B c (n + 1) (q + 1) (doF M.length (fileAt M) o).1 ∧ Below B W w') := hid (fun W hW => do1 o (h.below hW) hM.rise k ho hq hn (Nat.le_trans hB hW.size) hz)
  have Z := bytes_do (o := o) hM.rise
  have FT : Hid (∀ W, SL W B c (n + 1) (q + 1) (doF M.length (fileAt M) o).1 → Calls Try.prog 49 #[.map (some c)] W fun e w' => e = .returned (.bool (okL (doF M.length (fileAt M) o).1)) ∧ Below W.heap.size W w') := hid (fun W hW => fitsL hW (hM.do hf) (by omega) (by omega))
  have m1 := meth1finds
  have m2 := meth1do
  have HF := hid hf
  clear h hM k hf
  unfold OpV.val at C F D ⊢
  go_enter Try.func24, Try.ntmps24
  go_wp2_with (go_at_call 48; refine (C.out _).mono ?_; rintro e w1 ⟨rfl, hb1⟩)
  refine (F.out _ (then_ b0 hb1)).mono ?_
  rintro e w2 ⟨rfl, hb2⟩
  have B2 := hid (then_ (then_ b0 hb1) hb2)
  go_wp2_with fail
  refine (D.out _ B2.out).mono ?_
  rintro e w3 ⟨rfl, hS, hb3⟩
  have HS := hid hS
  clear hS
  cases ok : okL (doF M.length (fileAt M) o).1 with
  | false =>
    have FT2 := hid (FT.out _ HS.out)
    rw [ok] at FT2
    have OK := hid ok
    clear ok FT
    go_wp2_with (go_at_call 49; refine FT2.out.mono ?_; rintro e w4 ⟨rfl, hb4⟩)
    go_ret
    exact DoneP.no (codeL_full HF.out h2.out OK.out) (by decide) (((B2.out.mono hB).trans hb3).trans (hb4.mono (Nat.le_of_lt HS.out.lt)))
  | true =>
    have FT2 := hid (FT.out _ HS.out)
    rw [ok] at FT2
    have OK := hid ok
    clear ok FT
    go_wp2_with (go_at_call 49; refine FT2.out.mono ?_; rintro e w4 ⟨rfl, hb4⟩)
    go_ret
    have HC := codeL_ok HF.out h2.out OK.out
    exact ⟨by rw [HC]; rfl, fun _ => HS.out.below hb4, ((B2.out.mono hB).trans hb3).trans (hb4.mono (Nat.le_of_lt HS.out.lt))⟩

set_option maxRecDepth 100000 in
set_option maxHeartbeats 1000000 in
theorem done2_form (o : OpV) {w : World} {B c n q : Nat} {M : List FileV} (ho : o.wf) (k : o.kind = 2) (hf : opForm o = false) (hB : B ≤ w.heap.size) :
    Calls Try.prog 24 #[.map (some c), o.val] w fun e w' => DoneP w B c n q M o e w' := by
  have hcode := hid (codeL_form (M := M) (hf))
  have C : Hid (∀ W0, Calls Try.prog 48 #[o.val] W0 fun e w' => e = .returned (.tuple #[.iface 99 o.val, .bool false]) ∧ Below W0.heap.size W0 w') := hid (fun W0 => by
    have h := change2 o W0 ho k
    rw [hf] at h
    exact h)
  have b0 : Below w.heap.size w (w.alloc (.cells #[.int .i64 o.kind, .string o.name, .string o.to, .string o.data] 36)) := (Below.refl _ w).alloc (Nat.le_refl _) _
  clear k hf ho
  unfold OpV.val at C ⊢
  go_enter Try.func24, Try.ntmps24
  go_wp2_with (go_at_call 48; refine (C.out _).mono ?_; rintro e w1 ⟨rfl, hb1⟩)
  go_ret
  exact DoneP.no hcode.out (by decide) ((then_ b0 hb1).mono hB)

set_option maxRecDepth 100000 in
set_option maxHeartbeats 1000000 in
theorem done2_some (o : OpV) {w : World} {B c n q : Nat} {M : List FileV} (p : PreD o w B c n q M) (k : o.kind = 2) (hf : opForm o = true) (hd : (lookL M (key o.name)).isSome = true):
    Calls Try.prog 24 #[.map (some c), o.val] w fun e w' => DoneP w B c n q M o e w' := by
  obtain ⟨h, hM, ho, hB, hn, hq, hz, hl⟩ := p
  have C : Hid (∀ W0, Calls Try.prog 48 #[o.val] W0 fun e w' => e = .returned (.tuple #[.iface 99 o.val, .bool true]) ∧ Below W0.heap.size W0 w') := hid (fun W0 => by
    have h := change2 o W0 ho k
    rw [hf] at h
    exact h)
  have b0 : Below w.heap.size w (w.alloc (.cells #[.int .i64 o.kind, .string o.name, .string o.to, .string o.data] 36)) := (Below.refl _ w).alloc (Nat.le_refl _) _
  have F : Hid (∀ W, Below w.heap.size w W → Calls Try.prog 117 #[o.val, .map (some c)] W fun e w' => e = .returned (.bool true) ∧ Below W.heap.size W w') := hid (fun W hW => by
    obtain ⟨m, pv, ps, h'⟩ := h
    have h2 := findsR o c n m W (h'.map.below hW) ho.1
    rw [h'.dom, hd] at h2
    exact h2)
  have h2 : Hid ((doF M.length (fileAt M) o).2 = true) := hid (by obtain ⟨d, hd'⟩ := Option.isSome_iff_exists.1 hd; rw [doF_two hM.rise k hd'])
  have D : Hid (∀ W, Below w.heap.size w W → Calls Try.prog 116 #[o.val, .map (some c)] W fun e w' => e = .returned (.tuple #[]) ∧ SL w' B c (n + 1) (q + 1) (doF M.length (fileAt M) o).1 ∧ Below B W w') := hid (fun W hW => do2 o (h.below hW) hM.rise k ho hn (Nat.le_trans hB hW.size) hd)
  have Z := bytes_do (o := o) hM.rise
  have FT : Hid (∀ W, SL W B c (n + 1) (q + 1) (doF M.length (fileAt M) o).1 → Calls Try.prog 49 #[.map (some c)] W fun e w' => e = .returned (.bool (okL (doF M.length (fileAt M) o).1)) ∧ Below W.heap.size W w') := hid (fun W hW => fitsL hW (hM.do hf) (by omega) (by omega))
  have m1 := meth2finds
  have m2 := meth2do
  have HF := hid hf
  clear h hM hd k hf
  unfold OpV.val at C F D ⊢
  go_enter Try.func24, Try.ntmps24
  go_wp2_with (go_at_call 48; refine (C.out _).mono ?_; rintro e w1 ⟨rfl, hb1⟩)
  refine (F.out _ (then_ b0 hb1)).mono ?_
  rintro e w2 ⟨rfl, hb2⟩
  have B2 := hid (then_ (then_ b0 hb1) hb2)
  go_wp2_with fail
  refine (D.out _ B2.out).mono ?_
  rintro e w3 ⟨rfl, hS, hb3⟩
  have HS := hid hS
  clear hS
  cases ok : okL (doF M.length (fileAt M) o).1 with
  | false =>
    have FT2 := hid (FT.out _ HS.out)
    rw [ok] at FT2
    have OK := hid ok
    clear ok FT
    go_wp2_with (go_at_call 49; refine FT2.out.mono ?_; rintro e w4 ⟨rfl, hb4⟩)
    go_ret
    exact DoneP.no (codeL_full HF.out h2.out OK.out) (by decide) (((B2.out.mono hB).trans hb3).trans (hb4.mono (Nat.le_of_lt HS.out.lt)))
  | true =>
    have FT2 := hid (FT.out _ HS.out)
    rw [ok] at FT2
    have OK := hid ok
    clear ok FT
    go_wp2_with (go_at_call 49; refine FT2.out.mono ?_; rintro e w4 ⟨rfl, hb4⟩)
    go_ret
    have HC := codeL_ok HF.out h2.out OK.out
    exact ⟨by rw [HC]; rfl, fun _ => HS.out.below hb4, ((B2.out.mono hB).trans hb3).trans (hb4.mono (Nat.le_of_lt HS.out.lt))⟩

set_option maxRecDepth 100000 in
set_option maxHeartbeats 1000000 in
theorem done2_none (o : OpV) {w : World} {B c n q : Nat} {M : List FileV} (p : PreD o w B c n q M) (k : o.kind = 2) (hf : opForm o = true) (hd : (lookL M (key o.name)).isSome = false):
    Calls Try.prog 24 #[.map (some c), o.val] w fun e w' => DoneP w B c n q M o e w' := by
  obtain ⟨h, hM, ho, hB, hn, hq, hz, hl⟩ := p
  have C : Hid (∀ W0, Calls Try.prog 48 #[o.val] W0 fun e w' => e = .returned (.tuple #[.iface 99 o.val, .bool true]) ∧ Below W0.heap.size W0 w') := hid (fun W0 => by
    have h := change2 o W0 ho k
    rw [hf] at h
    exact h)
  have b0 : Below w.heap.size w (w.alloc (.cells #[.int .i64 o.kind, .string o.name, .string o.to, .string o.data] 36)) := (Below.refl _ w).alloc (Nat.le_refl _) _
  have F : Hid (∀ W, Below w.heap.size w W → Calls Try.prog 117 #[o.val, .map (some c)] W fun e w' => e = .returned (.bool false) ∧ Below W.heap.size W w') := hid (fun W hW => by
    obtain ⟨m, pv, ps, h'⟩ := h
    have h2 := findsR o c n m W (h'.map.below hW) ho.1
    rw [h'.dom, hd] at h2
    exact h2)
  have hcode := hid (codeL_none hf (doF_none (by omega) (Option.not_isSome_iff_eq_none.1 (by rw [hd]; decide))))
  have m1 := meth2finds
  have m2 := meth2do
  have HF := hid hf
  clear h hM hd k hf
  unfold OpV.val at C F  ⊢
  go_enter Try.func24, Try.ntmps24
  go_wp2_with (go_at_call 48; refine (C.out _).mono ?_; rintro e w1 ⟨rfl, hb1⟩)
  refine (F.out _ (then_ b0 hb1)).mono ?_
  rintro e w2 ⟨rfl, hb2⟩
  have B2 := hid (then_ (then_ b0 hb1) hb2)
  clear m1 m2 F
  go_wp2
  go_ret
  exact DoneP.no hcode.out (by decide) (B2.out.mono hB)

set_option maxRecDepth 100000 in
set_option maxHeartbeats 1000000 in
theorem done3_form (o : OpV) {w : World} {B c n q : Nat} {M : List FileV} (ho : o.wf) (k : o.kind = 3) (hf : opForm o = false) (hB : B ≤ w.heap.size) :
    Calls Try.prog 24 #[.map (some c), o.val] w fun e w' => DoneP w B c n q M o e w' := by
  have hcode := hid (codeL_form (M := M) (hf))
  have C : Hid (∀ W0, Calls Try.prog 48 #[o.val] W0 fun e w' => e = .returned (.tuple #[.iface 100 o.val, .bool false]) ∧ Below W0.heap.size W0 w') := hid (fun W0 => by
    have h := change3 o W0 ho k
    rw [hf] at h
    exact h)
  have b0 : Below w.heap.size w (w.alloc (.cells #[.int .i64 o.kind, .string o.name, .string o.to, .string o.data] 36)) := (Below.refl _ w).alloc (Nat.le_refl _) _
  clear k hf ho
  unfold OpV.val at C ⊢
  go_enter Try.func24, Try.ntmps24
  go_wp2_with (go_at_call 48; refine (C.out _).mono ?_; rintro e w1 ⟨rfl, hb1⟩)
  go_ret
  exact DoneP.no hcode.out (by decide) ((then_ b0 hb1).mono hB)

set_option maxRecDepth 100000 in
set_option maxHeartbeats 1000000 in
theorem done3_some (o : OpV) {w : World} {B c n q : Nat} {M : List FileV} (p : PreD o w B c n q M) (k : o.kind = 3) (hf : opForm o = true) (hd : (lookL M (key o.name)).isSome = true):
    Calls Try.prog 24 #[.map (some c), o.val] w fun e w' => DoneP w B c n q M o e w' := by
  obtain ⟨h, hM, ho, hB, hn, hq, hz, hl⟩ := p
  have C : Hid (∀ W0, Calls Try.prog 48 #[o.val] W0 fun e w' => e = .returned (.tuple #[.iface 100 o.val, .bool true]) ∧ Below W0.heap.size W0 w') := hid (fun W0 => by
    have h := change3 o W0 ho k
    rw [hf] at h
    exact h)
  have b0 : Below w.heap.size w (w.alloc (.cells #[.int .i64 o.kind, .string o.name, .string o.to, .string o.data] 36)) := (Below.refl _ w).alloc (Nat.le_refl _) _
  have F : Hid (∀ W, Below w.heap.size w W → Calls Try.prog 120 #[o.val, .map (some c)] W fun e w' => e = .returned (.bool true) ∧ Below W.heap.size W w') := hid (fun W hW => by
    obtain ⟨m, pv, ps, h'⟩ := h
    have h2 := findsD o c n m W (h'.map.below hW) ho.1
    rw [h'.dom, hd] at h2
    exact h2)
  have h2 : Hid ((doF M.length (fileAt M) o).2 = true) := hid (by obtain ⟨d, hd'⟩ := Option.isSome_iff_exists.1 hd; rw [doF_three (by omega) (by omega) hd'])
  have D : Hid (∀ W, Below w.heap.size w W → Calls Try.prog 119 #[o.val, .map (some c)] W fun e w' => e = .returned (.tuple #[]) ∧ SL w' B c (n + 1) (q + 1) (doF M.length (fileAt M) o).1 ∧ Below B W w') := hid (fun W hW => do3 o (h.below hW) k ho (Nat.le_trans hB hW.size) hd)
  have Z := bytes_do (o := o) hM.rise
  have FT : Hid (∀ W, SL W B c (n + 1) (q + 1) (doF M.length (fileAt M) o).1 → Calls Try.prog 49 #[.map (some c)] W fun e w' => e = .returned (.bool (okL (doF M.length (fileAt M) o).1)) ∧ Below W.heap.size W w') := hid (fun W hW => fitsL hW (hM.do hf) (by omega) (by omega))
  have m1 := meth3finds
  have m2 := meth3do
  have HF := hid hf
  clear h hM hd k hf
  unfold OpV.val at C F D ⊢
  go_enter Try.func24, Try.ntmps24
  go_wp2_with (go_at_call 48; refine (C.out _).mono ?_; rintro e w1 ⟨rfl, hb1⟩)
  refine (F.out _ (then_ b0 hb1)).mono ?_
  rintro e w2 ⟨rfl, hb2⟩
  have B2 := hid (then_ (then_ b0 hb1) hb2)
  go_wp2_with fail
  refine (D.out _ B2.out).mono ?_
  rintro e w3 ⟨rfl, hS, hb3⟩
  have HS := hid hS
  clear hS
  cases ok : okL (doF M.length (fileAt M) o).1 with
  | false =>
    have FT2 := hid (FT.out _ HS.out)
    rw [ok] at FT2
    have OK := hid ok
    clear ok FT
    go_wp2_with (go_at_call 49; refine FT2.out.mono ?_; rintro e w4 ⟨rfl, hb4⟩)
    go_ret
    exact DoneP.no (codeL_full HF.out h2.out OK.out) (by decide) (((B2.out.mono hB).trans hb3).trans (hb4.mono (Nat.le_of_lt HS.out.lt)))
  | true =>
    have FT2 := hid (FT.out _ HS.out)
    rw [ok] at FT2
    have OK := hid ok
    clear ok FT
    go_wp2_with (go_at_call 49; refine FT2.out.mono ?_; rintro e w4 ⟨rfl, hb4⟩)
    go_ret
    have HC := codeL_ok HF.out h2.out OK.out
    exact ⟨by rw [HC]; rfl, fun _ => HS.out.below hb4, ((B2.out.mono hB).trans hb3).trans (hb4.mono (Nat.le_of_lt HS.out.lt))⟩

set_option maxRecDepth 100000 in
set_option maxHeartbeats 1000000 in
theorem done3_none (o : OpV) {w : World} {B c n q : Nat} {M : List FileV} (p : PreD o w B c n q M) (k : o.kind = 3) (hf : opForm o = true) (hd : (lookL M (key o.name)).isSome = false):
    Calls Try.prog 24 #[.map (some c), o.val] w fun e w' => DoneP w B c n q M o e w' := by
  obtain ⟨h, hM, ho, hB, hn, hq, hz, hl⟩ := p
  have C : Hid (∀ W0, Calls Try.prog 48 #[o.val] W0 fun e w' => e = .returned (.tuple #[.iface 100 o.val, .bool true]) ∧ Below W0.heap.size W0 w') := hid (fun W0 => by
    have h := change3 o W0 ho k
    rw [hf] at h
    exact h)
  have b0 : Below w.heap.size w (w.alloc (.cells #[.int .i64 o.kind, .string o.name, .string o.to, .string o.data] 36)) := (Below.refl _ w).alloc (Nat.le_refl _) _
  have F : Hid (∀ W, Below w.heap.size w W → Calls Try.prog 120 #[o.val, .map (some c)] W fun e w' => e = .returned (.bool false) ∧ Below W.heap.size W w') := hid (fun W hW => by
    obtain ⟨m, pv, ps, h'⟩ := h
    have h2 := findsD o c n m W (h'.map.below hW) ho.1
    rw [h'.dom, hd] at h2
    exact h2)
  have hcode := hid (codeL_none hf (doF_none (by omega) (Option.not_isSome_iff_eq_none.1 (by rw [hd]; decide))))
  have m1 := meth3finds
  have m2 := meth3do
  have HF := hid hf
  clear h hM hd k hf
  unfold OpV.val at C F  ⊢
  go_enter Try.func24, Try.ntmps24
  go_wp2_with (go_at_call 48; refine (C.out _).mono ?_; rintro e w1 ⟨rfl, hb1⟩)
  refine (F.out _ (then_ b0 hb1)).mono ?_
  rintro e w2 ⟨rfl, hb2⟩
  have B2 := hid (then_ (then_ b0 hb1) hb2)
  clear m1 m2 F
  go_wp2
  go_ret
  exact DoneP.no hcode.out (by decide) (B2.out.mono hB)

set_option maxRecDepth 100000 in
set_option maxHeartbeats 1000000 in
theorem done0_form (o : OpV) {w : World} {B c n q : Nat} {M : List FileV} (k1 : o.kind ≠ 1) (k2 : o.kind ≠ 2) (k3 : o.kind ≠ 3)  (hB : B ≤ w.heap.size) :
    Calls Try.prog 24 #[.map (some c), o.val] w fun e w' => DoneP w B c n q M o e w' := by
  have hcode := hid (codeL_form (M := M) (form0 k1 k2 k3))
  have C : Hid (∀ W0, Calls Try.prog 48 #[o.val] W0 fun e w' => e = .returned (.tuple #[.nilIface, .bool false]) ∧ Below W0.heap.size W0 w') := hid (fun W0 => by
    have h := change0 o W0 k1 k2 k3
    
    exact h)
  have b0 : Below w.heap.size w (w.alloc (.cells #[.int .i64 o.kind, .string o.name, .string o.to, .string o.data] 36)) := (Below.refl _ w).alloc (Nat.le_refl _) _
  clear k1 k2 k3
  unfold OpV.val at C ⊢
  go_enter Try.func24, Try.ntmps24
  go_wp2_with (go_at_call 48; refine (C.out _).mono ?_; rintro e w1 ⟨rfl, hb1⟩)
  go_ret
  exact DoneP.no hcode.out (by decide) ((then_ b0 hb1).mono hB)

theorem doneOn_any (o : OpV) {w : World} {B c n q : Nat} {M : List FileV} (p : PreD o w B c n q M) :
    Calls Try.prog 24 #[.map (some c), o.val] w fun e w' => DoneP w B c n q M o e w' := by
  by_cases k1 : o.kind = 1
  · cases hf : opForm o with
    | false => exact done1_form o p.wf k1 hf p.low
    | true => exact done1_some o p k1 hf
  by_cases k2 : o.kind = 2
  · cases hf : opForm o with
    | false => exact done2_form o p.wf k2 hf p.low
    | true =>
      cases hd : (lookL M (key o.name)).isSome with
      | false => exact done2_none o p k2 hf hd
      | true => exact done2_some o p k2 hf hd
  by_cases k3 : o.kind = 3
  · cases hf : opForm o with
    | false => exact done3_form o p.wf k3 hf p.low
    | true =>
      cases hd : (lookL M (key o.name)).isSome with
      | false => exact done3_none o p k3 hf hd
      | true => exact done3_some o p k3 hf hd
  exact done0_form o k1 k2 k3 p.low
end Go.Proofs.Ytcchpeebhkiacaa
