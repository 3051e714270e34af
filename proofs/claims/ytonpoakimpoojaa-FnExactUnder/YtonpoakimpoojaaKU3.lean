/- Kids: two kernels that are the same have the same ones. -/
import Derived.Test.YtonpoakimpoojaaKU1
import Derived.Test.YtonpoakimpoojaaKN1
namespace Go.Proofs.Ytonpoakimpoojaa
open Go Go.RowKit Go.Deep Go.Maps

theorem RowI.of_own' {w : World} {B k : Nat} {a : Option Addr} {l : List Int} (h : OwnI w B (.slice a l.length k) l) : ∃ b, RowI w a b l.length ∧ B ≤ b := by
  obtain ⟨b, h1, h2⟩ := RowI.of_own h
  by_cases e : 0 < l.length
  · exact ⟨b, h1, h2 e⟩
  · exact ⟨B, fun h => absurd h e, Nat.le_refl _⟩
theorem kidsL_len (k : KerV) (x : Int) : (kidsL k x).length ≤ 271 := by
  unfold kidsL
  split
  · rename_i h
    obtain ⟨_, h2, _⟩ := objsOk_out (kerOk_parts h).2.1
    split
    · rename_i u _
      have := kidsTo_len (fun i => (k.O i).id) (fun i => (k.O i).up) k.on u
      omega
    · simp
  · simp
theorem kidsL_same {k l : KerV} {x : Int} (h : k.same l) : kidsL l x = kidsL k x := by
  have e0 := kerOk_same h
  obtain ⟨_, _, h3, h4⟩ := h
  have i1 : ∀ i, i < k.on → (l.O i).id = (k.O i).id := fun i hi => (h4 i hi).1
  have u1 : ∀ i, i < k.on → (l.O i).up = (k.O i).up := fun i hi => (h4 i hi).2.2.1
  unfold kidsL
  rw [e0, h3, findI_congr i1]
  cases e : findI (fun i => (k.O i).id) k.on x with
  | none => rfl
  | some u =>
    obtain ⟨hu, _⟩ := findI_some e
    have : kidsTo (fun i => (l.O i).id) (fun i => (l.O i).up) k.on u = kidsTo (fun i => (k.O i).id) (fun i => (k.O i).up) k.on u := by
      rw [kidsTo_map, kidsTo_map, kidsI_congr i1 u1 hu]
      apply List.map_congr_left
      intro j hj
      exact i1 j (List.mem_range.1 (List.mem_filter.1 hj).1)
    simp only [this]
end Go.Proofs.Ytonpoakimpoojaa
