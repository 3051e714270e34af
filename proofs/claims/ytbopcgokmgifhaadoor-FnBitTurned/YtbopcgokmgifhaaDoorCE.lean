/- roundKeysOf of the program. -/
import Derived.Test.YtbopcgokmgifhaaDoorCD
import Derived.Test.YtbopcgokmgifhaaDoorNBX
namespace Go.Proofs.YtbopcgokmgifhaaDoor
open Go Go.RowKit Go.Deep Go.Maps

/-- the four words when i of them are laid -/
def w4 (s : ByteArray) (i j : Nat) : Value := .int .u32 (if 4 - i ≤ j then kw s (3 - j) else 0)
/-- the four words ahead of round i -/
def wordOf (a : Sch) (i j : Nat) : Int := if j = 0 then a.k else if j = 1 + i % 3 then a.q0 else if j = 1 + (i + 1) % 3 then a.q1 else a.q2
def keysCell (s : ByteArray) (i j : Nat) : Value := .int .u32 (if j < i then keyAt s j else 0)

theorem w4_set {w : World} {b i : Nat} {s : ByteArray} (hi : i < 4) (hr : w.rowIs b 59 4 (w4 s i)) : (w.setCell ⟨b, 3 - i, none⟩ (.int .u32 (kw s i))).rowIs b 59 4 (w4 s (i + 1)) := by
  refine (hr.set (3 - i) _).congr fun j hj => ?_
  by_cases e : j = 3 - i
  · subst e
    rw [if_pos rfl]
    unfold w4
    rw [if_pos (by omega), show 3 - (3 - i) = i by omega]
  · simp only [e, if_false]
    unfold w4
    by_cases h1 : 4 - i ≤ j
    · rw [if_pos h1, if_pos (by omega)]
    · rw [if_neg h1, if_neg (by omega)]
theorem w4_start (s : ByteArray) (j : Nat) (hj : j < 4) : w4 s 4 j = .int .u32 (wordOf (sch s 0) 0 j) := by
  unfold w4 wordOf
  rw [if_pos (by omega)]
  match j, hj with
  | 0, _ => rfl
  | 1, _ => rfl
  | 2, _ => rfl
  | 3, _ => rfl
theorem word_next {w : World} {b i : Nat} {a : Sch} (hr : w.rowIs b 59 4 (fun j => .int .u32 (wordOf a i j))) :
    ((w.setCell ⟨b, 1 + i % 3, none⟩ (.int .u32 (rx a.q0 a.k i))).setCell ⟨b, 0, none⟩ (.int .u32 (ry a.q0 a.k i))).rowIs b 59 4 (fun j => .int .u32 (wordOf (a.next i) (i + 1) j)) := by
  refine ((hr.set (1 + i % 3) _).set 0 _).congr fun j hj => ?_
  have h3 : i % 3 = 0 ∨ i % 3 = 1 ∨ i % 3 = 2 := by omega
  by_cases e0 : j = 0
  · subst e0; rfl
  · simp only [e0, if_false]
    by_cases e1 : j = 1 + i % 3
    · simp only [e1, if_true]
      unfold wordOf
      rw [if_neg (by omega), if_neg (by omega), if_neg (by omega)]
      rfl
    · simp only [e1, if_false]
      unfold wordOf
      simp only [e0, e1, if_false]
      by_cases e2 : j = 1 + (i + 1) % 3
      · rw [if_pos e2, if_pos e2]; rfl
      · rw [if_neg e2, if_neg e2, if_pos (by omega)]; rfl
theorem keys_set {w : World} {b i : Nat} {s : ByteArray} (hi : i < 27) (hr : w.rowIs b 46 27 (keysCell s i)) : (w.setCell ⟨b, i, none⟩ (.int .u32 (keyAt s i))).rowIs b 46 27 (keysCell s (i + 1)) := by
  refine (hr.set i _).congr fun j hj => ?_
  by_cases e : j = i
  · subst e
    rw [if_pos rfl]
    unfold keysCell
    rw [if_pos (by omega)]
  · simp only [e, if_false]
    unfold keysCell
    by_cases h1 : j < i
    · rw [if_pos h1, if_pos (by omega)]
    · rw [if_neg h1, if_neg (by omega)]

theorem zero_row (w : World) (t n : Nat) : (w.alloc (.cells (Array.replicate n (.int .u32 0)) t)).rowIs w.heap.size t n (fun _ => .int .u32 0) :=
  ⟨_, heap_alloc_new _ _, Array.size_replicate, fun i hi => by rw [Array.getElem?_replicate, if_pos hi]⟩
theorem zero27 : Array.replicate 27 (Value.int .u32 0) = #[.int .u32 0, .int .u32 0, .int .u32 0, .int .u32 0, .int .u32 0, .int .u32 0, .int .u32 0, .int .u32 0, .int .u32 0, .int .u32 0, .int .u32 0, .int .u32 0, .int .u32 0, .int .u32 0, .int .u32 0, .int .u32 0, .int .u32 0, .int .u32 0, .int .u32 0, .int .u32 0, .int .u32 0, .int .u32 0, .int .u32 0, .int .u32 0, .int .u32 0, .int .u32 0, .int .u32 0] := rfl
theorem row_below {w w' : World} {b t n : Nat} {f : Nat → Value} (h : w.rowIs b t n f) (hb : Below w.heap.size w w') : w'.rowIs b t n f := h.of_block (hb.block b h.lt)
theorem word_turn (a : Sch) (i : Nat) : wordOf a i (1 + i % 3) = a.q0 := by
  unfold wordOf; rw [if_neg (by omega), if_pos rfl]
theorem rowIs_old {w w' : World} {b t n : Nat} {f : Nat → Value} (h : w.rowIs b t n f) (e : w'.heap[b]? = w.heap[b]?) : w'.rowIs b t n f := by
  obtain ⟨c, h1, h2⟩ := h
  exact ⟨c, by rw [e]; exact h1, h2⟩

theorem wpList_store_arr {ops : Array Oper} {rest : List Oper} {o : Oper} {a : Act} {Q : Exit → Act → World → Prop} (w : World) (hgd : o.guard = none) (hd : o.dst = none) (p x : Operand)
    (ho : o.op = .store 46 p x) (b0 : Nat) (A C : Array Value) (hp : a.eval p = .pointer (some ⟨b0, 0, none⟩)) (hx : a.eval x = .agg A) (hrow : w.heap[b0]? = some (.cells C 46 (0, 0))) (hc : C.size = 27) (hs : A.size = 27) (h1 : A.all (·.oneCell') = true)
    (h : wpList Tryd.prog ops Q rest a (w.setRow b0 A)) : wpList Tryd.prog ops Q (o :: rest) a w := by
  refine wpList_plain hgd fun _ hK => ?_
  have hl := run_storeVar_row (P := Tryd.prog) w b0 46 46 C A hrow (by rw [hs]; kernel_rfl) (by rw [hc, hs]) h1
  unfold Oper.wp execOp
  simp only [ho, hp, hx, Instr.storeAt, Instr.sureAddr, Sem.run_bind, Sem.run_pure, Result.andThen_ok, hl]
  refine hK _ _ ?_
  rw [hd]
  exact h
theorem keys_one {s : ByteArray} {A : Array Value} (h : Keys27 s A) : A.all (·.oneCell') = true := by
  refine Array.all_eq_true_iff_forall_mem.2 fun v hv => ?_
  obtain ⟨j, hj, rfl⟩ := Array.mem_iff_getElem.1 hv
  have := h.at' j (by rw [← h.size]; exact hj)
  rw [Array.getElem?_eq_getElem hj] at this
  rw [Option.some.inj this]
  rfl
theorem below_row {w w' : World} {b B : Nat} {A : Array Value} (h : Below B w w') (hb : B ≤ b) : Below B w (w'.setRow b A) :=
  ⟨h.os, h.tape, h.output, by simpa using h.size, fun k hk => (setRow_other w' b k _ (by omega)).trans (h.block k hk)⟩

set_option maxRecDepth 100000 in
set_option maxHeartbeats 1000000 in
theorem roundKeys_any (s : ByteArray) (w : World) (hs : s.size = 16) :
    Calls Tryd.prog 27 #[.string s] w fun e w' => ∃ A, e = .returned (.agg A) ∧ Keys27 s A ∧ Below w.heap.size w w' := by
  have HS := hid hs
  have R0 : Hid ((w.alloc (.cells (Array.replicate 27 (.int .u32 0)) 46)).rowIs w.heap.size 46 27 (fun _ => .int .u32 0)) := zero_row w 46 27
  have R1 : Hid (((w.alloc (.cells (Array.replicate 27 (.int .u32 0)) 46)).alloc (.cells (Array.replicate 4 (.int .u32 0)) 59)).rowIs (w.heap.size + 1) 59 4 (w4 s 0)) := by
    have t := zero_row (w.alloc (.cells (Array.replicate 27 (.int .u32 0)) 46)) 59 4
    rw [World.size_alloc] at t
    exact t.congr fun j hj => by unfold w4; rw [if_neg (by omega)]
  go_enter Tryd.func27, Tryd.ntmps27
  go_wp2
  go_loopw [8] (fun iv W => ∃ i : Nat, i ≤ 4 ∧ iv = .int .i64 i ∧ W.rowIs (w.heap.size + 1) 59 4 (w4 s i) ∧ W.rowIs w.heap.size 46 27 (fun _ => .int .u32 0) ∧ W.heap.size = w.heap.size + 2 ∧ Below w.heap.size w W) (fun i _ => 4 - (intOf i).toNat)
  case atStart => exact ⟨0, by omega, rfl, R1.out, R0.out.alloc _, by simp, ((Below.refl _ _).alloc (Nat.le_refl _) _).alloc (by simp) _⟩
  case round =>
    clear R0 R1
    obtain ⟨i, hi, rfl, h4, h27, hsz, hB⟩ := hrel
    have HZ := hid hsz
    clear hsz
    by_cases h0 : i < 4
    · have h0' : (i : Int) < 4 := by omega
      have ht : (3 - (i : Int)).toNat = 3 - i := by omega
      have c3 := h4.cell (i := 3 - i) (by omega)
      have f3 := h4.frozen (3 - i)
      have H4 := hid h4
      have H27 := hid h27
      clear h4 h27
      go_wp2_with (go_at_call 25; refine (readHigh_kn s i _ HS.out h0).mono ?_; rintro e w1 ⟨rfl, rfl⟩)
      refine ⟨⟨i + 1, by omega, rfl, w4_set h0 H4.out, H27.out.setOther (by simp only; omega) _, by rw [World.size_setCell]; exact HZ.out, hB.setCell (by simp only; omega) _⟩, by simp [intOf]; omega⟩
    · obtain rfl : i = 4 := by omega
      rw [show ((4 : Nat) : Int) = 4 from rfl]
      go_wp2
      have sz := hB.size
      have R2 : Hid ((wr.alloc (.cells (Array.replicate 27 (.int .u32 0)) 46)).rowIs wr.heap.size 46 27 (keysCell s 0)) := (zero_row wr 46 27).congr fun j hj => by unfold keysCell; rw [if_neg (by omega)]
      have R1 : Hid ((wr.alloc (.cells (Array.replicate 27 (.int .u32 0)) 46)).rowIs (w.heap.size + 1) 59 4 (fun j => .int .u32 (wordOf (sch s 0) 0 j))) := (h4.congr fun j hj => w4_start s j hj).alloc _
      have R0 : Hid ((wr.alloc (.cells (Array.replicate 27 (.int .u32 0)) 46)).rowIs w.heap.size 46 27 (fun _ => .int .u32 0)) := h27.alloc _
      have R3 := hB.alloc sz (.cells (Array.replicate 27 (.int .u32 0)) 46)
      have hG : w.heap.size + 2 = wr.heap.size := HZ.out.symm
      clear h4 h27
      generalize hW0 : wr = W0 at *
      go_loopw [24] (fun iv W => ∃ i : Nat, i ≤ 27 ∧ iv = .int .i64 i ∧ W.rowIs W0.heap.size 46 27 (keysCell s i) ∧ W.rowIs (w.heap.size + 1) 59 4 (fun j => .int .u32 (wordOf (sch s i) i j)) ∧ W.rowIs w.heap.size 46 27 (fun _ => .int .u32 0) ∧ Below w.heap.size w W) (fun i _ => 27 - (intOf i).toNat)
      case atStart => exact ⟨0, by omega, rfl, R2.out, R1.out, R0.out, R3⟩
      case round =>
        clear R0 R1 R2 R3 hB hi h0
        obtain ⟨i, hi, rfl, hK, hW, hR, hB⟩ := hrel
        have HK := hid hK
        have HW := hid hW
        have HR := hid hR
        by_cases h0 : i < 27
        · have h0' : (i : Int) < 27 := by omega
          have ck := hK.cell (i := i) h0
          have fk := hK.frozen i
          have cw := hW.cell (i := 0) (by omega)
          clear hK hW hR
          go_wp2
          have VK : Hid ((wr.setCell ⟨W0.heap.size, i, none⟩ (.int .u32 (wordOf (sch s i) i 0))).rowIs W0.heap.size 46 27 (keysCell s (i + 1))) := keys_set h0 HK.out
          have VW : Hid ((wr.setCell ⟨W0.heap.size, i, none⟩ (.int .u32 (wordOf (sch s i) i 0))).rowIs (w.heap.size + 1) 59 4 (fun j => .int .u32 (wordOf (sch s i) i j))) := HW.out.setOther (by simp only; omega) _
          have VR : Hid ((wr.setCell ⟨W0.heap.size, i, none⟩ (.int .u32 (wordOf (sch s i) i 0))).rowIs w.heap.size 46 27 (fun _ => .int .u32 0)) := HR.out.setOther (by simp only; omega) _
          have VB : Below w.heap.size w (wr.setCell ⟨W0.heap.size, i, none⟩ (.int .u32 (wordOf (sch s i) i 0))) := hB.setCell (by simp only; omega) _
          rw [show 1 + (i : Int) % 3 = ((1 + i % 3 : Nat) : Int) by omega]
          generalize wr.setCell ⟨W0.heap.size, i, none⟩ (.int .u32 (wordOf (sch s i) i 0)) = V at *
          clear ck fk cw HK HW HR hB
          have ct : V.cell? ⟨w.heap.size + 1, 1 + i % 3, none⟩ = some (.int .u32 (sch s i).q0) := by rw [VW.out.cell (i := 1 + i % 3) (by omega), word_turn]
          have cw : V.cell? ⟨w.heap.size + 1, 0, none⟩ = some (.int .u32 (sch s i).k) := VW.out.cell (i := 0) (by omega)
          have hN : Hid (∀ W, Below V.heap.size V W → W.rowIs (w.heap.size + 1) 59 4 (fun j => .int .u32 (wordOf (sch s i) i j))) := fun W hW => row_below VW.out hW
          generalize ht : 1 + i % 3 = t at *
          have t4 : t < 4 := by omega
          have HT := hid ht
          clear ht
          have t4' : (t : Int) < 4 := by omega
          have t0 : ¬ t = 0 := by have := HT.out; omega
          have t0' : ¬ 0 = t := by have := HT.out; omega
          have hwr : IntKind.u32.wrap (i : Int) = i := by rw [IntKind.wrap_u32]; omega
          generalize hx : (sch s i).q0 = x at *
          generalize hy : (sch s i).k = y at *
          have HX := hid hx
          have HY := hid hy
          clear hx hy
          go_region_with (go_at_call 37; refine (round_any x y i _).mono ?_; rintro e w5 ⟨rfl, h5⟩; have r5 := hN.out _ ((Below.refl _ _).drew.trans h5); have d1 := r5.cell (i := t) t4; have d2 := r5.frozen t; have d3 := r5.cell (i := 0) (by decide); have d4 := r5.frozen 0)
          all_goals (
            go_wp2
            obtain rfl := HT.out
            obtain rfl := HX.out
            obtain rfl := HY.out
            have h5' : Below V.heap.size V w5 := (Below.refl _ _).drew.trans h5
            have k5 := row_below VK.out h5'
            have q5 := row_below VR.out h5'
            have b5 : Below w.heap.size w w5 := VB.trans (h5'.mono VB.size)
            refine ⟨⟨i + 1, by omega, rfl, ?_, word_next r5, ?_, ?_⟩, by simp [intOf]; omega⟩
            · exact (k5.setOther (by simp only; omega) _).setOther (by simp only; omega) _
            · exact (q5.setOther (by simp only; omega) _).setOther (by simp only; omega) _
            · exact (b5.setCell (by simp only; omega) _).setCell (by simp only; omega) _)
        · obtain rfl : i = 27 := by omega
          obtain ⟨A, a1, a2, a3⟩ := HK.out
          obtain ⟨C, b1, b2, b3⟩ := HR.out
          have HA : Hid (Keys27 s A) := ⟨a2, fun j hj => by rw [a3 j hj]; unfold keysCell; rw [if_pos hj]⟩
          have H1 := hid a1
          have H2 := hid a2
          have H3 := hid b1
          have H4 := hid b2
          clear hK hW hR HK HW HR a1 a2 a3 b1 b2 b3
          go_wp2_with (first | (refine wpList_load_arr _ rfl _ rfl W0.heap.size A rfl H1.out H2.out ?_) | (refine wpList_store_arr _ rfl rfl _ _ rfl w.heap.size A C rfl rfl H3.out H4.out H2.out (keys_one HA.out) ?_))
          have hl := run_loadVar_row (P := Tryd.prog) (wr.setRow w.heap.size A) w.heap.size 46 46 A (0, 0) _ (setRow_heap wr w.heap.size C A 46 (0, 0) H3.out) Tryd.underlying46 rfl (by rw [H2.out]; kernel_rfl)
          refine bodyPost_ret (v := .agg A) ?_ rfl ⟨A, rfl, HA.out, below_row hB (Nat.le_refl _)⟩
          simp [results, Tryd.results27, Act.put, asAddr, hl]
end Go.Proofs.YtbopcgokmgifhaaDoor
