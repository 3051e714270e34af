/- BlockOf of the model. -/
import Derived.Test.YtbopcgokmgifhaaDoorCB
namespace Go.Proofs.YtbopcgokmgifhaaDoor
open Go Go.RowKit Go.Deep Go.Maps

/-- the two words behind so many rounds -/
def rnd (s : ByteArray) (x y : Int) : Nat → Int × Int
  | 0 => (x, y)
  | j + 1 => (rx (rnd s x y j).1 (rnd s x y j).2 (keyAt s j), ry (rnd s x y j).1 (rnd s x y j).2 (keyAt s j))
def hiW (b : Int) : Int := b / 4294967296 % 4294967296
def loW (b : Int) : Int := b % 4294967296
def joinW (p : Int × Int) : Int := wrap64 (bits .or .u64 (IntKind.u64.wrap (IntKind.u64.wrap p.1 * 4294967296)) (IntKind.u64.wrap p.2))
def blkOf (s : ByteArray) (b : Int) : Int := joinW (rnd s (hiW b) (loW b) 27)
def blockAns (s : ByteArray) (b : Int) : Int := if s.size = 16 ∧ 0 ≤ b then blkOf s b else -1

set_option maxRecDepth 100000 in
set_option maxHeartbeats 1000000 in
theorem specBlock_good (s : ByteArray) (b : Int) (w : World) (hs : s.size = 16) (hb : 0 ≤ b) :
    Calls Tryd.prog 36 #[.string s, .int .i64 b] w fun e w' => e = .returned (.int .i64 (blkOf s b)) ∧ Below w.heap.size w w' := by
  have HK := hid (l9Keys_any s w hs)
  have hb' : ¬ b < 0 := by omega
  go_enter Tryd.func36, Tryd.ntmps36
  go_wp2_with (go_at_call 40; refine HK.out.mono ?_; rintro e w1 ⟨g, c, rfl, O, hB⟩)
  clear HK
  go_loopw [6, 7, 8] (fun xv yv iv W => ∃ j : Nat, j ≤ 27 ∧ iv = .int .i64 j ∧ xv = .int .u32 (rnd s (hiW b) (loW b) j).1 ∧ yv = .int .u32 (rnd s (hiW b) (loW b) j).2 ∧ OwnU W w.heap.size (.slice (some ⟨g, 0, none⟩) 27 c) (keysTo s 27) ∧ Below w.heap.size w W) (fun _ _ i _ => 27 - (intOf i).toNat)
  case atStart => exact ⟨0, by omega, rfl, rfl, rfl, O, hB⟩
  case round =>
    clear O hB
    obtain ⟨j, hj, rfl, rfl, rfl, O, hB⟩ := hrel
    by_cases h0 : j < 27
    · have h0' : (j : Int) < 27 := by omega
      have cj : wr.cell? ⟨g, j, none⟩ = some (.int .u32 (keyAt s j)) := OwnU.cell O (keysTo_at s 27 j h0)
      have KX : Hid ((rnd s (hiW b) (loW b) (j + 1)) = (rx (rnd s (hiW b) (loW b) j).1 (rnd s (hiW b) (loW b) j).2 (keyAt s j), ry (rnd s (hiW b) (loW b) j).1 (rnd s (hiW b) (loW b) j).2 (keyAt s j))) := rfl
      generalize (rnd s (hiW b) (loW b) j).1 = x at *
      generalize (rnd s (hiW b) (loW b) j).2 = y at *
      generalize keyAt s j = k at *
      have O' := hid O
      have hB' := hid hB
      clear O hB
      go_wp2
      go_region_held3 (fun w' => w'.cell? ⟨g, j, none⟩ = some (.int .u32 k)) (go_keep) (first | (go_at_call 41; refine (l9Turn8_any x _).mono ?_; rintro e w4 ⟨rfl, rfl⟩))
      go_wp2_with (go_at_call 41; refine (l9Turn29_any y _).mono ?_; rintro e w4 ⟨rfl, rfl⟩)
      refine ⟨⟨j + 1, by omega, rfl, by rw [KX.out]; rfl, by rw [KX.out]; rfl, O'.out.same rfl, hB'.out.drew⟩, by simp [intOf]; omega⟩
    · obtain rfl : j = 27 := by omega
      go_wp2
      go_ret
      exact ⟨rfl, hB⟩
set_option maxRecDepth 100000 in
theorem specBlock_any (s : ByteArray) (b : Int) (w : World) :
    Calls Tryd.prog 36 #[.string s, .int .i64 b] w fun e w' => e = .returned (.int .i64 (blockAns s b)) ∧ Below w.heap.size w w' := by
  by_cases hs : s.size = 16
  · by_cases hb : 0 ≤ b
    · refine (specBlock_good s b w hs hb).mono ?_
      rintro e w' ⟨rfl, h⟩
      exact ⟨by rw [blockAns, if_pos ⟨hs, hb⟩], h⟩
    · have hb' : b < 0 := by omega
      have E : Hid (blockAns s b = -1) := by show _ = _; rw [blockAns, if_neg (by omega)]
      clear hb
      go_enter Tryd.func36, Tryd.ntmps36
      go_wp2
      go_ret
      exact ⟨ret_int E.out.symm, Below.refl _ _⟩
  · have hs' : ¬ (s.size : Int) = 16 := by omega
    have E : Hid (blockAns s b = -1) := by show _ = _; rw [blockAns, if_neg (by omega)]
    go_enter Tryd.func36, Tryd.ntmps36
    go_wp2
    go_ret
    exact ⟨ret_int E.out.symm, Below.refl _ _⟩
end Go.Proofs.YtbopcgokmgifhaaDoor
