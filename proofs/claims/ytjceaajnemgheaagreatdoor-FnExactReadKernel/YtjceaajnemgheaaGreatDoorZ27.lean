/- Reading a kernel, plainly: words and lines, what is read leniently and strictly. -/
import Derived.Test.YtjceaajnemgheaaGreatDoorZ26
import Derived.Test.YtjceaajnemgheaaGreatDoorZ7
import Derived.Test.YtjceaajnemgheaaGreatDoorZ0
import Derived.Deep.OwnRows
import Derived.Deep.RegionHeld3
import Derived.Laws.IdiomStrings
import Derived.Maps.AppendAt
import Derived.Deep.AppendLies
import Derived.Laws.OwnMore
import Derived.WideShapes
namespace Go.Proofs.YtjceaajnemgheaaGreatDoor
open Go
structure TD where
  id : Int
  b1 : Int
  l1 : List (Int × Int)
  b2 : Int
  l2 : List (Int × Int)
  made : Int
  own : List Int
structure OD where
  id : Int
  kind : Int
  up : Int
  b1 : Int
  l1 : List (Int × Int)
  b2 : Int
  l2 : List (Int × Int)
  own : List Int
  data : List UInt8
  items : List (List UInt8)
def zT : TD := ⟨0, 0, [], 0, [], 0, []⟩
def zO : OD := ⟨0, 0, 0, 0, [], 0, [], [], [], []⟩
def bytesOf (l : List UInt8) : ByteArray := ⟨l.toArray⟩
theorem bytesOf_list (l : List UInt8) : (bytesOf l).data.toList = l := by simp [bytesOf]
theorem bytesOf_size (l : List UInt8) : (bytesOf l).size = l.length := by simp [bytesOf, ByteArray.size]
def catD (l : List (Int × Int)) : CatL := ⟨none, l.length, 0, fstAt l, sndAt l⟩
def intD (l : List Int) : IntL := ⟨none, l.length, 0, fun i => l.getD i 0⟩
def strD (l : List (List UInt8)) : StrL := ⟨none, l.length, 0, fun i => bytesOf (l.getD i [])⟩
def TD.v (d : TD) : ThrV := ⟨d.id, d.b1, catD d.l1, d.b2, catD d.l2, intD d.own, d.made⟩
def OD.v (d : OD) : ObjV := ⟨d.id, d.kind, d.up, d.b1, catD d.l1, bytesOf d.data, strD d.items, intD d.own, d.b2, catD d.l2⟩
def kerD (ts : List TD) (os : List OD) : KerV := ⟨none, ts.length, 0, fun i => (ts.getD i zT).v, none, os.length, 0, fun i => (os.getD i zO).v⟩
theorem lb_catD (b : Int) (l : List (Int × Int)) : lb b (catD l) = txt b l := by
  unfold lb catD
  rw [catsTo_list]
theorem range_getD {α : Type} (l : List α) (d : α) : (List.range l.length).map (fun i => l.getD i d) = l := by
  apply List.ext_getElem
  · simp
  · intro i h1 h2
    simp [List.getElem?_eq_getElem h2]
theorem nums_intD (l : List Int) : nums (intD l) = l := range_getD l 0
def wordsL : List UInt8 → List (List UInt8)
  | [] => [[]]
  | b :: l => if b = 32 then [] :: wordsL l else match wordsL l with
    | [] => [[b]]
    | w :: ws => (b :: w) :: ws
theorem wordsL_ne (L : List UInt8) : wordsL L ≠ [] := by
  cases L with
  | nil => simp [wordsL]
  | cons b l =>
    rw [wordsL]
    split
    · simp
    · split <;> simp
theorem wordsL_cut (L : List UInt8) : wordsL L = (cutL 32 L).1 :: (if (cutL 32 L).2.2 = true then wordsL (cutL 32 L).2.1 else []) := by
  induction L with
  | nil => simp [wordsL, cutL]
  | cons b l ih =>
    rw [wordsL, cutL]
    by_cases h : b = 32
    · simp [h]
    · rw [if_neg h, if_neg h, ih]
def sep (ws : List (List UInt8)) : List UInt8 := Lib.joinTail [32] ws
theorem sep_cons (w : List UInt8) (ws : List (List UInt8)) : sep (w :: ws) = 32 :: (w ++ sep ws) := by simp [sep, Lib.joinTail]
theorem sep_nil : sep [] = [] := rfl
theorem sep_app (a b : List (List UInt8)) : sep (a ++ b) = sep a ++ sep b := by simp [sep, Lib.joinTail]
def no (c : UInt8) (w : List UInt8) : Prop := ∀ b ∈ w, b ≠ c
theorem cut_word {w : List UInt8} (h : no 32 w) (ws : List (List UInt8)) : cutL 32 (w ++ sep ws) = (w, (match ws with | [] => [] | x :: r => x ++ sep r), (match ws with | [] => false | _ :: _ => true)) := by
  cases ws with
  | nil => rw [sep_nil, List.append_nil, cutL_no h]
  | cons x r => rw [sep_cons, cutL_at h]
theorem words_sep {w : List UInt8} {ws : List (List UInt8)} (h : ∀ x ∈ w :: ws, no 32 x) : wordsL (w ++ sep ws) = w :: ws := by
  induction ws generalizing w with
  | nil => rw [wordsL_cut, cut_word (h w (List.mem_cons_self ..))]; simp
  | cons x r ih =>
    rw [wordsL_cut, cut_word (h w (List.mem_cons_self ..))]
    simp only [if_true]
    rw [ih fun y hy => h y (List.mem_cons_of_mem _ hy)]
theorem sep_words (L : List UInt8) : ∃ w ws, wordsL L = w :: ws ∧ L = w ++ sep ws := by
  induction L with
  | nil => exact ⟨[], [], rfl, rfl⟩
  | cons b l ih =>
    obtain ⟨w, ws, h1, h2⟩ := ih
    by_cases h : b = 32
    · refine ⟨[], w :: ws, ?_, ?_⟩
      · simp only [wordsL, h, if_true, h1]
      · rw [sep_cons, List.nil_append, h, ← h2]
    · refine ⟨b :: w, ws, ?_, ?_⟩
      · simp only [wordsL, h, if_false, h1]
      · rw [List.cons_append, ← h2]
theorem words_no (L : List UInt8) : ∀ w ∈ wordsL L, no 32 w := by
  induction L with
  | nil => intro w hw; simp [wordsL] at hw; subst hw; intro b hb; cases hb
  | cons b l ih =>
    intro w hw
    rw [wordsL] at hw
    split at hw
    · rcases List.mem_cons.1 hw with rfl | hw
      · intro b hb; cases hb
      · exact ih w hw
    · rename_i hb
      split at hw
      · rename_i he
        exact absurd he (wordsL_ne l)
      · rename_i x ws he
        rw [he] at ih
        rcases List.mem_cons.1 hw with rfl | hw
        · intro c hc
          rcases List.mem_cons.1 hc with rfl | hc
          · exact hb
          · exact ih x (List.mem_cons_self ..) c hc
        · exact ih w (List.mem_cons_of_mem _ hw)
def numM (w : List UInt8) : Int := if okD w = true then numL w else -1
def thrM (ws : List (List UInt8)) : TD := ⟨numM (ws.getD 0 []), (readL (ws.getD 1 [])).1, (readL (ws.getD 1 [])).2.1, (readL (ws.getD 2 [])).1, (readL (ws.getD 2 [])).2.1, numM (ws.getD 3 []), (ws.drop 4).map numM⟩
def objM (ws : List (List UInt8)) : OD := ⟨numM (ws.getD 0 []), numM (ws.getD 1 []), numM (ws.getD 2 []), (readL (ws.getD 3 [])).1, (readL (ws.getD 3 [])).2.1, (readL (ws.getD 4 [])).1, (readL (ws.getD 4 [])).2.1, (ws.drop 5).map numM, [], []⟩
def lastO (os : List OD) (f : OD → OD) : List OD := match os.getLast? with
  | none => os
  | some o => os.dropLast ++ [f o]
def lineM (ts : List TD) (os : List OD) (l : List UInt8) : Option (List TD × List OD) :=
  if (cutL 32 l).1 = thrW ∧ 4 ≤ (wordsL (cutL 32 l).2.1).length then some (ts ++ [thrM (wordsL (cutL 32 l).2.1)], os)
  else if (cutL 32 l).1 = objW ∧ 5 ≤ (wordsL (cutL 32 l).2.1).length then some (ts, os ++ [objM (wordsL (cutL 32 l).2.1)])
  else if (cutL 32 l).1 = datW ∧ 0 < os.length then some (ts, lastO os fun o => { o with data := (cutL 32 l).2.1 })
  else if (cutL 32 l).1 = itmW ∧ 0 < os.length then some (ts, lastO os fun o => { o with items := o.items ++ [(cutL 32 l).2.1] })
  else none
def readM : Nat → List TD → List OD → List UInt8 → Option (List TD × List OD)
  | 0, ts, os, _ => some (ts, os)
  | n + 1, ts, os, R => if R = [] then some (ts, os) else if (cutL 10 R).2.2 = true then (match lineM ts os (cutL 10 R).1 with
    | none => none
    | some p => readM n p.1 p.2 (cutL 10 R).2.1) else none
def takesL (W R : List UInt8) : Option (List UInt8) := if (W ++ [32]).isPrefixOf R = true then some (R.drop (W.length + 1)) else none
def thrS (ws : List (List UInt8)) : Option TD := if 4 ≤ ws.length ∧ okD (ws.getD 0 []) = true ∧ (readL (ws.getD 1 [])).2.2 = true ∧ (readL (ws.getD 2 [])).2.2 = true ∧ okD (ws.getD 3 []) = true ∧ (ws.drop 4).all okD = true then some (thrM ws) else none
def objS (ws : List (List UInt8)) : Option OD := if 5 ≤ ws.length ∧ okD (ws.getD 0 []) = true ∧ okD (ws.getD 1 []) = true ∧ okD (ws.getD 2 []) = true ∧ (readL (ws.getD 3 [])).2.2 = true ∧ (readL (ws.getD 4 [])).2.2 = true ∧ (ws.drop 5).all okD = true then some (objM ws) else none
def strT : Nat → List TD → List UInt8 → Option (List TD × List UInt8)
  | 0, _, _ => none
  | n + 1, ts, R => match takesL thrW R with
    | none => some (ts, R)
    | some Q => if (cutL 10 Q).2.2 = true then (match thrS (wordsL (cutL 10 Q).1) with
      | none => none
      | some t => strT n (ts ++ [t]) (cutL 10 Q).2.1) else none
def strI : Nat → List (List UInt8) → List UInt8 → Option (List (List UInt8) × List UInt8)
  | 0, _, _ => none
  | n + 1, is, R => match takesL itmW R with
    | none => some (is, R)
    | some Q => if (cutL 10 Q).2.2 = true then strI n (is ++ [(cutL 10 Q).1]) (cutL 10 Q).2.1 else none
def strDa (R : List UInt8) : Option (List UInt8 × List UInt8) := match takesL datW R with
  | none => some ([], R)
  | some Q => if (cutL 10 Q).2.2 = true ∧ (cutL 10 Q).1 ≠ [] then some ((cutL 10 Q).1, (cutL 10 Q).2.1) else none
def strOb (R : List UInt8) : Option (OD × List UInt8) := match takesL objW R with
  | none => none
  | some Q => if (cutL 10 Q).2.2 = true then (match objS (wordsL (cutL 10 Q).1) with
    | none => none
    | some o => match strDa (cutL 10 Q).2.1 with
      | none => none
      | some d => match strI (d.2.length + 1) [] d.2 with
        | none => none
        | some i => some ({ o with data := d.1, items := i.1 }, i.2)) else none
def strO : Nat → List OD → List UInt8 → Option (List OD)
  | 0, _, _ => none
  | n + 1, os, R => if R = [] then some os else match strOb R with
    | none => none
    | some p => strO n (os ++ [p.1]) p.2
def strK (L : List UInt8) : Option (List TD × List OD) := match strT (L.length + 1) [] L with
  | none => none
  | some p => match strO (p.2.length + 1) [] p.2 with
    | none => none
    | some os => if kerOk (kerD p.1 os) = true then some (p.1, os) else none
end Go.Proofs.YtjceaajnemgheaaGreatDoor
namespace Go.Proofs.YtjceaajnemgheaaGreatDoor
open Go Go.RowKit Go.Deep Go.Maps
open Go.WideShapes (add_plain)

theorem ownsRow_shapeR {w : World} {B e size n : Nat} {v : Value} {cs : List Value} (h : w.ownsRow B e size v n cs) : ∃ a c, v = .slice a n c := by
  rcases h.2 with ⟨rfl, rfl⟩ | ⟨gb, cap, cur, rfl, _⟩
  · exact ⟨_, _, rfl⟩
  · exact ⟨_, _, rfl⟩

section
variable {t e size bytes : Nat} {z : Value} (hT : Tryz.prog.underlying t = some (.slice e)) (hI : (Tryz.prog.info? e).map (fun i => (i.zero, i.size, i.bytes)) = some (some z, size, bytes)) (hzs : z.cells.size = size) (hsz : 0 < size)
include hT hI hzs hsz

end

end Go.Proofs.YtjceaajnemgheaaGreatDoor
