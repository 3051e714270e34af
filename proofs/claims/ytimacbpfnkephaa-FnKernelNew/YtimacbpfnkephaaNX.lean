/- A new kernel as it lies in memory; it is right; its threads can change the root. -/
import Derived.Test.YtimacbpfnkephaaNW
import Derived.Test.YtimacbpfnkephaaKC2
import Derived.Test.YtimacbpfnkephaaFE
namespace Go.Proofs.Ytimacbpfnkephaa
open Go Go.RowKit Go.Deep Go.Maps

def nilC : CatL := ⟨none, 0, 0, fun _ => 0, fun _ => 0⟩
def nilI : IntL := ⟨none, 0, 0, fun _ => 0⟩
def nilS : StrL := ⟨none, 0, 0, fun _ => ByteArray.mk #[]⟩
def newT (i : Nat) : ThrV := ⟨i + 1, 1, nilC, 2, nilC, nilI, 0⟩
def newO : ObjV := ⟨1, 3, 0, 1, nilC, ByteArray.mk #[], nilS, nilI, 0, nilC⟩
def newK (ta : Option Addr) (n tk : Nat) (oa : Option Addr) (ck : Nat) : KerV := ⟨ta, n, tk, newT, oa, 1, ck, fun _ => newO⟩
theorem nilC_at (w : World) : nilC.at w := ⟨Nat.zero_le _, fun h => by simp [nilC] at h⟩
theorem nilI_at (w : World) : nilI.at w := ⟨Nat.zero_le _, fun h => by simp [nilI] at h⟩
theorem nilS_at (w : World) : nilS.at w := ⟨Nat.zero_le _, fun h => by simp [nilS] at h, fun i h => by simp [nilS] at h⟩
theorem newK_at {w : World} {ta oa : Option Addr} {tb n tk ob ck : Nat} (hn : n ≤ 9) (hT : Thr w ta tb n newF) (hO : Obj1 w oa ob 1 1 3 0 1 ⟨#[]⟩ 0) : (newK ta n tk oa ck).at w := by
  refine ⟨by unfold maxLen; show n ≤ _; omega, by unfold maxLen; show 1 ≤ _; omega, fun h0 => ?_, fun _ => ?_⟩
  · have h0' : 0 < n := h0
    obtain ⟨ea, _⟩ := hT h0'
    refine ⟨tb, 0, ea, hT.lt h0', fun i hi => ⟨?_, nilC_at w, nilC_at w, nilI_at w⟩⟩
    have hi' : i < n := hi
    obtain ⟨q0, q1, q2, q3, q4, q5, q6⟩ := hT.cells hi'
    rw [Nat.zero_add]
    exact ⟨q0, q1, q2, q3, q4, q5, q6⟩
  · obtain ⟨ea, hB⟩ := hO (by omega)
    refine ⟨ob, 0, ea, hB.lt, fun i hi => ⟨?_, nilC_at w, nilS_at w, nilI_at w, nilC_at w, by simp [newK, newO, ByteArray.size]⟩⟩
    have hi' : i < 1 := hi
    obtain rfl : i = 0 := by omega
    obtain ⟨q0, q1, q2, q3, q4, q5, q6, q7, q8, q9⟩ := hB.ten
    exact ⟨q0, q1, q2, q3, q4, q5, q6, q7, q8, q9⟩
theorem newK_small {ta oa : Option Addr} {n tk ck : Nat} (hn : n ≤ 9) : (newK ta n tk oa ck).small :=
  ⟨⟨by show n ≤ _; omega, fun i _ => ⟨by simp [newK, newT, nilC], by simp [newK, newT, nilC], by simp [newK, newT, nilI]⟩⟩, ⟨by show 1 ≤ _; omega, fun i _ => ⟨by simp [newK, newO, nilC], by simp [newK, newO, ByteArray.size], ⟨by simp [newK, newO, nilS], fun j hj => by simp [newK, newO, nilS] at hj⟩, by simp [newK, newO, nilI], by simp [newK, newO, nilC]⟩⟩⟩
theorem labOk_one : labOk 1 0 (fun _ => 0) (fun _ => 0) = true := by decide
theorem labOk_two : labOk 2 0 (fun _ => 0) (fun _ => 0) = true := by decide
theorem labOk_nought : labOk 0 0 (fun _ => 0) (fun _ => 0) = true := by decide
theorem ownOk_nil : ownOk 0 (fun _ => 0) = true := by decide
theorem newT_ok {i : Nat} (hi : i < 9) : thrOkV (newT i) = true := by
  have h1 : inB ((i : Int) + 1) 1 9 = true := inB_iff.2 ⟨by omega, by omega⟩
  have h2 : inB 0 0 30 = true := by decide
  simp only [thrOkV, thrOk, newT, nilC, nilI, h1, labOk_one, labOk_two, ownOk_nil, h2, Bool.and_true]
theorem newO_ok : objOk newO = true := by
  have h1 : plainB (ByteArray.mk #[]) 40 = true := by decide
  have h2 : itemsB 0 (fun _ => ByteArray.mk #[]) = true := by decide
  have h3 : kindB newO = true := by simp [kindB, newO, nilC, nilI, nilS, zeroB]
  have e1 : labOk newO.b1 newO.c1.n newO.c1.f newO.c1.g = true := labOk_one
  have e2 : labOk newO.b2 newO.c2.n newO.c2.f newO.c2.g = true := labOk_nought
  have e3 : ownOk newO.own.n newO.own.h = true := ownOk_nil
  have e4 : plainB newO.data 40 = true := h1
  have e5 : itemsB newO.items.n newO.items.f = true := h2
  rw [objOk, e1, e2, e3, e4, e5, h3]
  rfl
theorem kerOk_new {ta oa : Option Addr} {n tk ck : Nat} (h1 : 1 ≤ n) (hn : n ≤ 9) : kerOk (newK ta n tk oa ck) = true := by
  have a1 : thrsOk n newT = true := by
    have : (List.range n).all (thrAt newT) = true := all_yes fun i hi => by
      have e : (i == 0 || decide ((newT (i - 1)).id < (newT i).id)) = true := by
        by_cases h0 : i = 0
        · simp [h0]
        · rw [Bool.or_eq_true, decide_eq_true_eq]
          refine Or.inr ?_
          show ((i - 1 : Nat) : Int) + 1 < (i : Int) + 1
          omega
      rw [thrAt, newT_ok (by omega), e]
      rfl
    simp only [thrsOk, this, Bool.and_true, Bool.and_eq_true, decide_eq_true_eq]
    exact ⟨h1, hn⟩
  have a2 : objsOk 1 (fun _ => newO) = true := by
    have : (List.range 1).all (objAt (fun _ => newO)) = true := all_yes fun i hi => by
      obtain rfl : i = 0 := by omega
      rw [objAt, newO_ok]
      decide
    rw [objsOk, this]
    decide
  have a5 : reachB (fun _ => newO.id) (fun _ => newO.up) 1 = true := by
    refine reachB_iff.2 fun i hi => ⟨0, by omega, ?_⟩
    obtain rfl : i = 0 := by omega
    rfl
  have a3 : numsOk n newT 1 (fun _ => newO) = true := rfl
  have a4 : upsOk 1 (fun _ => newO) = true := rfl
  show (thrsOk n newT && objsOk 1 (fun _ => newO) && numsOk n newT 1 (fun _ => newO) && upsOk 1 (fun _ => newO) && reachB (fun _ => newO.id) (fun _ => newO.up) 1) = true
  rw [a1, a2, a3, a4, a5]
  rfl
theorem changes_new {i : Nat} (hi : i < 9) : changesB ((i : Int) + 1) 0 1 0 (fun _ => 0) (fun _ => 0) 2 0 (fun _ => 0) (fun _ => 0) 0 (fun _ => 0) 1 0 (fun _ => 0) (fun _ => 0) = true := by
  have h := newT_ok hi
  have e : thrOk ((i : Int) + 1) 0 1 0 (fun _ => 0) (fun _ => 0) 2 0 (fun _ => 0) (fun _ => 0) 0 (fun _ => 0) = true := h
  have f : flowsB 1 0 (fun _ => 0) (fun _ => 0) 0 (fun _ => 0) 1 0 (fun _ => 0) (fun _ => 0) = true := by decide
  simp [changesB, seesB, rchB, e, f, labOk_one]
end Go.Proofs.Ytimacbpfnkephaa
