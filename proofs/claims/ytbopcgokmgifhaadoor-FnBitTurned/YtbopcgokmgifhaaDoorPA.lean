/- What was sealed is opened, what was opened was sealed, plainly. -/
import Derived.Test.YtbopcgokmgifhaaDoorZF
namespace Go.Proofs.YtbopcgokmgifhaaDoor
open Go Go.RowKit

theorem list_text (r : ByteArray) : r = ⟨r.data.toList.toArray⟩ := by cases r; simp
theorem ext_list (l : List UInt8) (i j : Nat) : (⟨l.toArray⟩ : ByteArray).extract i j = ⟨((l.take j).drop i).toArray⟩ := by
  apply ByteArray.ext
  apply Array.ext'
  rw [List.drop_take]
  simp
theorem ext_data (r : ByteArray) (i j : Nat) : (r.extract i j).data.toList = (r.data.toList.take j).drop i := by
  have t := ext_list r.data.toList i j
  rw [← list_text] at t
  rw [t]
theorem at8_of (l : List UInt8) (k : Nat) (h : k < l.length) : at8 ⟨l.toArray⟩ k = l[k].toNat := by
  have h' : k < (⟨l.toArray⟩ : ByteArray).size := by rw [size_ofR]; exact h
  rw [at8_eq h']
  rfl
theorem num_back (b : Int) (h0 : 0 ≤ b) (h1 : b < 281474976710656) : numTo ⟨(bigL b 6).toArray⟩ 6 = b.toNat := by
  obtain ⟨B, rfl⟩ : ∃ B : Nat, b = (B : Int) := ⟨b.toNat, by omega⟩
  have e : ∀ j, j < 6 → at8 ⟨(bigL (B : Int) 6).toArray⟩ j = B / 2 ^ (8 * (5 - j)) % 256 := fun j hj => by
    rw [at8_of _ _ (by rw [bigL_len]; exact hj), bigL_at _ _ _ hj]
    have t := byteOf_val (B : Int) (6 - 1 - j)
    have t2 : ((B : Int) / 2 ^ (8 * (6 - 1 - j)) % 256) = ((B / 2 ^ (8 * (5 - j)) % 256 : Nat) : Int) := by
      simp
    rw [t2] at t
    exact Int.ofNat.inj t
  simp only [numTo, e 0 (by omega), e 1 (by omega), e 2 (by omega), e 3 (by omega), e 4 (by omega), e 5 (by omega)]
  simp only [Int.toNat_natCast]
  omega
theorem big_back (s : ByteArray) (h : s.size = 6) : bigL ((numTo s 6 : Nat) : Int) 6 = s.data.toList := by
  have b := at8_lt s
  have b0 := b 0; have b1 := b 1; have b2 := b 2; have b3 := b 3; have b4 := b 4; have b5 := b 5
  apply List.ext_getElem
  · rw [bigL_len]; exact h.symm
  · intro j h1 h2
    rw [bigL_len] at h1
    rw [bigL_at _ _ _ h1]
    have hj : j < s.size := by omega
    have e : s.data.toList[j] = s[j] := rfl
    rw [e]
    apply UInt8.toNat_inj.1
    have t := byteOf_val ((numTo s 6 : Nat) : Int) (6 - 1 - j)
    rw [← at8_eq hj]
    have goal : ((numTo s 6 : Nat) : Int) / 2 ^ (8 * (6 - 1 - j)) % 256 = (at8 s j : Nat) := by
      simp only [numTo]
      match j, h1 with
      | 0, _ => omega
      | 1, _ => omega
      | 2, _ => omega
      | 3, _ => omega
      | 4, _ => omega
      | 5, _ => omega
    omega

theorem xl_back (l : List UInt8) (p : ByteArray) (n : Nat) (h : l.length = n) : xl ⟨(xl ⟨l.toArray⟩ p n).toArray⟩ p n = l := by
  apply List.ext_getElem
  · rw [xl_len, h]
  · intro j h1 h2
    rw [xl_len] at h1
    have e1 := xl_at ⟨(xl ⟨l.toArray⟩ p n).toArray⟩ p n j h1
    have e2 := xl_at ⟨l.toArray⟩ p n j h1
    rw [List.getElem?_eq_getElem (by rw [xl_len]; exact h1)] at e1 e2
    have e1' := Option.some.inj e1
    have e2' := Option.some.inj e2
    rw [e1', at8_of _ _ (by rw [xl_len]; exact h1), e2', at8_of _ _ h2]
    have a1 := UInt8.toNat_lt l[j]
    have a2 := at8_lt p j
    have x1 : l[j].toNat ^^^ at8 p j < 256 := Nat.xor_lt_two_pow (n := 8) (by omega) (by omega)
    have i1 : (UInt8.ofNat (l[j].toNat ^^^ at8 p j)).toNat = l[j].toNat ^^^ at8 p j := UInt8.toNat_ofNat_of_lt' x1
    rw [i1, Nat.xor_assoc, Nat.xor_self, Nat.xor_zero]
    exact UInt8.ofNat_toNat

theorem sealed_opened (s : ByteArray) (b : Int) (t : ByteArray) (h : (sealAns s b t).2 = true) : openAns s (sealAns s b t).1 = (b, t, true) := by
  have hok : strmOk s b t.size ∧ t.size ≤ 200 := by
    by_cases hh : strmOk s b t.size ∧ t.size ≤ 200
    · exact hh
    · rw [sealAns, if_neg hh] at h; cases h
  have e : (sealAns s b t).1 = ⟨(front s b t ++ lowL (crc ⟨(front s b t).toArray⟩ : Nat)).toArray⟩ := by rw [sealAns, if_pos hok]
  obtain ⟨hst, h200⟩ := hok
  have hF := front_len s b t
  have hb0 := hst.2.1
  have hb1 := hst.2.2.1
  obtain ⟨F, hFe⟩ : ∃ F, front s b t = F := ⟨_, rfl⟩
  obtain ⟨L, hLe⟩ : ∃ L, lowL (crc ⟨F.toArray⟩ : Nat) = L := ⟨_, rfl⟩
  have hL : L.length = 4 := by rw [← hLe]; rfl
  rw [hFe, hLe] at e
  rw [hFe] at hF
  rw [e]
  have hz : (⟨(F ++ L).toArray⟩ : ByteArray).size = t.size + 10 := by rw [size_ofR, List.length_append, hF, hL]; omega
  have hfr : fr ⟨(F ++ L).toArray⟩ = ⟨F.toArray⟩ := by
    rw [fr, hz, ext_list, List.drop_zero, List.take_append_of_le_length (by omega), List.take_of_length_le (by omega)]
  have htl : tl ⟨(F ++ L).toArray⟩ = ⟨L.toArray⟩ := by
    rw [tl, hz, ext_list, List.take_of_length_le (by rw [List.length_append]; omega), List.drop_append_of_le_length (by omega), List.drop_of_length_le (by omega), List.nil_append]
  have hsum : sumOf ⟨(F ++ L).toArray⟩ = tl ⟨(F ++ L).toArray⟩ := by rw [sumOf, hfr, htl, hLe]
  have hFs : F = bigL b 6 ++ xl t (strmAns s b t.size).1 t.size := by rw [← hFe]; rfl
  have hnc : nc ⟨(F ++ L).toArray⟩ = b.toNat := by
    rw [nc, ext_list, List.drop_zero, List.take_append_of_le_length (by omega), hFs, List.take_append_of_le_length (by rw [bigL_len]; omega), List.take_of_length_le (by rw [bigL_len]; omega)]
    exact num_back b hb0 (by omega)
  have hnb : ((nc ⟨(F ++ L).toArray⟩ : Nat) : Int) = b := by rw [hnc]; omega
  have hbd : bd ⟨(F ++ L).toArray⟩ = ⟨(xl t (strmAns s b t.size).1 t.size).toArray⟩ := by
    rw [bd, hz, ext_list, List.take_append_of_le_length (by omega), List.take_of_length_le (by omega), hFs, List.drop_append_of_le_length (by rw [bigL_len]; omega), List.drop_of_length_le (by rw [bigL_len]; omega), List.nil_append]
  have h10 : (⟨(F ++ L).toArray⟩ : ByteArray).size - 10 = t.size := by omega
  have hpad : padOf s ⟨(F ++ L).toArray⟩ = (strmAns s b t.size).1 := by rw [padOf, hnb, h10]
  have hopen : openOk s ⟨(F ++ L).toArray⟩ := ⟨by omega, by omega, hsum, by rw [hnb, h10]; exact hst⟩
  rw [openAns, if_pos hopen, hnb, hbd, hpad, h10]
  have ht : t = ⟨t.data.toList.toArray⟩ := list_text t
  have hx := xl_back t.data.toList (strmAns s b t.size).1 t.size Array.length_toList
  rw [← ht] at hx
  rw [hx, ← ht]

theorem opened_sealed (s r : ByteArray) (h : (openAns s r).2.2 = true) : sealAns s (openAns s r).1 (openAns s r).2.1 = (r, true) := by
  have hok : openOk s r := by
    by_cases hh : openOk s r
    · exact hh
    · rw [openNo hh] at h; cases h
  rw [openAns, if_pos hok]
  obtain ⟨h1, h2, h3, h4⟩ := hok
  simp only
  obtain ⟨p, hp⟩ : ∃ p, padOf s r = p := ⟨_, rfl⟩
  rw [hp]
  have hbs := bd_size h1
  have hbl : bd r = ⟨(bd r).data.toList.toArray⟩ := list_text _
  have hxl : (⟨(xl (bd r) p (r.size - 10)).toArray⟩ : ByteArray).size = r.size - 10 := by rw [size_ofR, xl_len]
  have hpad : (strmAns s (nc r : Nat) ((⟨(xl (bd r) p (r.size - 10)).toArray⟩ : ByteArray).size : Nat)).1 = p := by rw [hxl, ← hp]; rfl
  have hx := xl_back (bd r).data.toList p (r.size - 10) (by rw [Array.length_toList]; exact hbs)
  rw [← hbl] at hx
  have hfront : front s (nc r : Nat) ⟨(xl (bd r) p (r.size - 10)).toArray⟩ = (fr r).data.toList := by
    rw [front, hpad, hxl, hx, nc, big_back _ (by rw [ByteArray.size_extract]; omega)]
    have e1 : (r.extract 0 6).data.toList = r.data.toList.take 6 := by rw [ext_data, List.drop_zero]
    have e2 : (bd r).data.toList = (r.data.toList.take (r.size - 4)).drop 6 := by rw [bd, ext_data]
    have e3 : (fr r).data.toList = r.data.toList.take (r.size - 4) := by rw [fr, ext_data, List.drop_zero]
    rw [e1, e2, e3]
    have e4 : r.data.toList.take 6 = (r.data.toList.take (r.size - 4)).take 6 := by rw [List.take_take]; congr 1; omega
    rw [e4, List.take_append_drop]
  rw [sealAns, if_pos ⟨by rw [hxl]; exact h4, by rw [hxl]; omega⟩, hfront]
  have hfl : (⟨(fr r).data.toList.toArray⟩ : ByteArray) = fr r := (list_text _).symm
  rw [hfl]
  have e5 : lowL (crc (fr r) : Nat) = (tl r).data.toList := by rw [← h3, sumOf]
  rw [e5]
  congr 1
  have e3 : (fr r).data.toList = r.data.toList.take (r.size - 4) := by rw [fr, ext_data, List.drop_zero]
  have e6 : (tl r).data.toList = r.data.toList.drop (r.size - 4) := by
    rw [tl, ext_data, List.take_of_length_le (by rw [Array.length_toList]; exact Nat.le_refl _)]
  rw [e3, e6, List.take_append_drop]

theorem strm_take (s : ByteArray) (b : Int) (m k : Nat) : (strm s b (m + k)).take (8 * m) = strm s b m := by
  induction k with
  | zero => rw [Nat.add_zero, List.take_of_length_le (by rw [strm_len]; omega)]
  | succ k ih =>
    rw [← Nat.add_assoc, strm, List.take_append_of_le_length (by rw [strm_len]; omega), ih]
theorem stream_more (s : ByteArray) (b : Int) (n : Nat) (h : strmOk s b ((n : Int) + 9)) : (strmAns s b ((n : Int) + 9)).1.extract 0 n = (strmAns s b n).1 := by
  have h' : strmOk s b n := by unfold strmOk at h ⊢; omega
  rw [strmAns, if_pos h, strmAns, if_pos h', ext_list]
  rw [List.drop_zero, List.take_take]
  congr 2
  have e1 : ((n : Int) + 9).toNat = n + 9 := by omega
  have e2 : ((n : Nat) : Int).toNat = n := by omega
  rw [e1, e2, Nat.min_eq_left (by omega)]
  have t := strm_take s (b * 1024) ((n + 7) / 8) ((n + 9 + 7) / 8 - (n + 7) / 8)
  rw [show (n + 7) / 8 + ((n + 9 + 7) / 8 - (n + 7) / 8) = (n + 9 + 7) / 8 by omega] at t
  rw [← t, List.take_take, Nat.min_eq_left (by omega)]
end Go.Proofs.YtbopcgokmgifhaaDoor
