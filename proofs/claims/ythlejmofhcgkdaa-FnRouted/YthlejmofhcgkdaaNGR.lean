/- Bytes appended to bytes, and their text. -/
import Derived.Test.YthlejmofhcgkdaaNGQ
namespace Go.Proofs.Ythlejmofhcgkdaa
open Go Go.RowKit Go.Deep Go.Maps
open Go.WideShapes (add_plain)

theorem size_ofR (l : List UInt8) : (⟨l.toArray⟩ : ByteArray).size = l.length := by simp [ByteArray.size]
theorem Try.info5 : (Try.prog.info? 5).map (fun i => (i.zero, i.size, i.bytes)) = some (some (.int .u8 0), 1, 1) := by kernel_rfl
def bcells (l : List UInt8) : List Value := l.map fun b => Value.int .u8 b.toNat
def OwnB (w : World) (B : Nat) (v : Value) (l : List UInt8) : Prop := w.ownsRow B 5 1 v l.length (bcells l)

theorem one_u8 {w : World} (x : Int) : LiesC (w.alloc (.cells #[.int .u8 x] 5)) (some ⟨w.heap.size, 0, none⟩) 1 [.int .u8 x] := fun _ =>
  ⟨w.heap.size, 0, rfl, by simp, fun j u hu => by
    cases j with
    | zero => simp at hu; subst hu; simp
    | succ j => simp at hu⟩

theorem wpList_append_byte {ops : Array Oper} {rest : List Oper} {o : Oper} {a : Act} {Q : Exit → Act → World → Prop} (w : World) (hgd : o.guard = none) (s x : Operand)
    (ho : o.op = .call { callee := .builtin .append, args := #[s, x], argTypes := #[22, 22] })
    (B : Nat) (v : Value) (l : List UInt8) (hs : a.eval s = v) (hown : OwnB w B v l) (ad : Option Addr) (c : Nat) (b : UInt8) (hx : a.eval x = .slice ad 1 c) (hc : LiesC w ad 1 [.int .u8 b.toNat])
    (hm : l.length ≤ 1000) (hB : B ≤ w.heap.size)
    (h : ∀ g c' w', OwnB w' B (.slice (some ⟨g, 0, none⟩) (l ++ [b]).length c') (l ++ [b]) → w.grownBy w' v.ownBlock → wpList Try.prog ops Q rest (a.put o.dst (.slice (some ⟨g, 0, none⟩) (l ++ [b]).length c')) w') : wpList Try.prog ops Q (o :: rest) a w := by
  refine wpList_plain hgd fun _ hK => wp_append_gen Try.underlying22 Try.info5 rfl (by omega) w s x ho B v l.length _ hs hown ad 1 c [.int .u8 b.toNat] hx (by simp) hc (fun u hu => by simp at hu; subst hu; rfl) (by omega) (by omega) hB fun a' c' w' h2 h3 _ => hK _ _ ?_
  have e1 : bcells l ++ [Value.int .u8 b.toNat] = bcells (l ++ [b]) := by simp [bcells]
  have e2 : l.length + 1 = (l ++ [b]).length := by simp
  rw [e1] at h2
  obtain ⟨g, cap, hv, _, _⟩ := World.ownsRow.form h2 (by omega)
  simp only [Value.slice.injEq] at hv
  obtain ⟨rfl, _, _⟩ := hv
  rw [e2] at h2 ⊢
  exact h g c' w' h2 h3

theorem OwnB.text {w : World} {B g n c : Nat} {l : List UInt8} (h : OwnB w B (.slice (some ⟨g, 0, none⟩) n c) l) (hn : n = l.length) : (convert 22 9 (.slice (some ⟨g, 0, none⟩) n c)).run Try.prog w = .ok (.string ⟨l.toArray⟩) w := by
  subst hn
  refine run_convert_bytes_back (P := Try.prog) w 22 9 5 ⟨g, 0, none⟩ c l Try.underlying22 Try.underlying5 Try.underlying9 fun j hj => ?_
  exact World.ownsRow.cells h (g := g) rfl j _ (by simp [bcells, hj])

theorem bytes_app (a l : List UInt8) : ((⟨a.toArray⟩ : ByteArray) ++ (⟨l.toArray⟩ : ByteArray)) = ⟨(a ++ l).toArray⟩ := by
  apply ByteArray.ext
  apply Array.ext'
  simp

/-- the i-th byte of a number from below -/
def byteOf (n : Int) (i : Nat) : UInt8 := UInt8.ofNat ((n / 2 ^ (8 * i)) % 256).toNat
theorem byteOf_val (n : Int) (i : Nat) : (((byteOf n i).toNat : Nat) : Int) = (n / 2 ^ (8 * i)) % 256 := by
  have h0 : 0 ≤ (n / 2 ^ (8 * i)) % 256 := Int.emod_nonneg _ (by decide)
  have h1 : (n / 2 ^ (8 * i)) % 256 < 256 := Int.emod_lt_of_pos _ (by decide)
  unfold byteOf
  rw [UInt8.toNat_ofNat_of_lt' (by simp [UInt8.size]; omega)]
  omega
/-- m bytes of a number, the highest first -/
def bigL (n : Int) : Nat → List UInt8
  | 0 => []
  | m + 1 => byteOf n m :: bigL n m
theorem bigL_len (n : Int) (m : Nat) : (bigL n m).length = m := by induction m with
  | zero => rfl
  | succ m ih => simp [bigL, ih]
end Go.Proofs.Ythlejmofhcgkdaa
