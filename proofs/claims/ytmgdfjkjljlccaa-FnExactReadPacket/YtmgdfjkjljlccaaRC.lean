/- FnExactReadPacket: the walk. -/
import Derived.Test.YtmgdfjkjljlccaaRB
namespace Go.Proofs.Ytmgdfjkjljlccaa
open Go Go.RowKit Go.Deep Go.Maps

/-- what is read has a text whose bytes are in sight -/
def rdC (s : ByteArray) (q : Bool) : Int × Int × Int × List UInt8 := if q = true then (fromOf s, toOf s, kindOf s, bodyOf s) else (0, 0, 0, [])
theorem rdV_eq (s : ByteArray) (q : Bool) : rdV s q = .tuple #[.agg #[.int .i64 (rdC s q).1, .int .i64 (rdC s q).2.1, .int .i64 (rdC s q).2.2.1, .string ⟨(rdC s q).2.2.2.toArray⟩], .bool q] := by
  cases q <;> rfl

set_option maxHeartbeats 1000000 in
theorem exactReadPacket_walk (s : ByteArray) (w : World) (hn : s.size ≤ maxLen) :
    Calls Try.prog 5 #[.string s] w fun e w' => e = .returned (.bool true) ∧ Below w.heap.size w w' := by
  unfold maxLen at hn
  by_cases h : s.size ≤ 1048576
  · have h' : ¬ (1048576 : Int) < (s.size : Int) := by omega
    have hS := fun v => specRead_any s v h
    have hI := fun v => implRead_any s v h
    rw [rdV_eq] at hS hI
    generalize (rdC s (rdp s)).1 = f at *
    generalize (rdC s (rdp s)).2.1 = t at *
    generalize (rdC s (rdp s)).2.2.1 = k at *
    generalize (rdC s (rdp s)).2.2.2 = B at *
    generalize rdp s = Q at *
    go_enter Try.func5, Try.ntmps5
    go_wp2_with fail
    refine (hS _).mono ?_
    rintro e w1 ⟨rfl, L1⟩
    have A1 := Blk.new w1 (.cells #[.int .i64 f, .int .i64 t, .int .i64 k, .string ⟨B.toArray⟩] 28)
    have M1 := L1.alloc L1.size (.cells #[.int .i64 f, .int .i64 t, .int .i64 k, .string ⟨B.toArray⟩] 28)
    clear hS
    go_wp2_with fail
    generalize w1.alloc (.cells #[.int .i64 f, .int .i64 t, .int .i64 k, .string ⟨B.toArray⟩] 28) = V1 at *
    refine (hI _).mono ?_
    rintro e w2 ⟨rfl, hb2⟩
    have L2 : Below w.heap.size w w2 := M1.trans (hb2.mono M1.size)
    have A2 := (A1.below hb2).alloc (.cells #[.int .i64 f, .int .i64 t, .int .i64 k, .string ⟨B.toArray⟩] 28)
    have C2 := Blk.new w2 (.cells #[.int .i64 f, .int .i64 t, .int .i64 k, .string ⟨B.toArray⟩] 28)
    have M2 := L2.alloc L2.size (.cells #[.int .i64 f, .int .i64 t, .int .i64 k, .string ⟨B.toArray⟩] 28)
    obtain ⟨x0, x1, x2, x3⟩ := A2.four
    obtain ⟨y0, y1, y2, y3⟩ := C2.four
    clear hI A1 hb2 L1 M1 L2 A2 C2
    go_wp2_with fail
    generalize w2.alloc (.cells #[.int .i64 f, .int .i64 t, .int .i64 k, .string ⟨B.toArray⟩] 28) = V2 at *
    refine (eqPacket_true f t k B _).mono ?_
    rintro e w3 ⟨rfl, hb3⟩
    have L3 : Below w.heap.size w w3 := M2.trans (hb3.mono M2.size)
    clear hb3 M2 x0 x1 x2 x3 y0 y1 y2 y3
    go_wp2
    go_ret
    exact ⟨rfl, L3⟩
  · have h' : (1048576 : Int) < (s.size : Int) := by omega
    go_enter Try.func5, Try.ntmps5
    go_wp2
    go_ret
    exact ⟨rfl, Below.refl _ _⟩
end Go.Proofs.Ytmgdfjkjljlccaa
