import Derived.Test.YtbacmamplkdgaaaGreatDoorZ31b
import Derived.Test.YtbacmamplkdgaaaGreatDoorZ32b
import Derived.Test.YtbacmamplkdgaaaGreatDoorZ33b
import Derived.Test.YtbacmamplkdgaaaGreatDoorZ38b
import Derived.Test.YtbacmamplkdgaaaGreatDoorVYb
import Derived.Test.YtbacmamplkdgaaaGreatDoorZ37b
import Derived.Test.YtbacmamplkdgaaaGreatDoorZ4b
import Derived.Test.YtbacmamplkdgaaaGreatDoorZ15b
import Derived.Test.YtbacmamplkdgaaaGreatDoorRows
import Derived.ProofKit
import Derived.OpenShut
import Derived.ShutString
import Derived.ChangeOld
import Derived.ChangeMaps5
import Derived.Lib.SmallJoins
import Derived.Deep.SlicePairs
import Derived.Test.YtbacmamplkdgaaaGreatDoorZ24b
set_option maxRecDepth 100000
set_option maxHeartbeats 16000000
namespace Go.Proofs.YtbacmamplkdgaaaGreatDoor
open Go Go.RowKit Go.Deep Go.Maps Go.BigFrame Go.Shelf
def hidO(d:ByteArray)(o:ObjV):ObjV:=⟨o.id,o.kind,o.up,o.b1,o.c1,d,o.items,o.own,o.b2,o.c2⟩
def hidF(d:ByteArray)(P:Nat→Bool)(O:Nat→ObjV)(i:Nat):ObjV:=if P i=true then hidO d (O i)else O i
section
variable {d:ByteArray}{P:Nat→Bool}{O:Nat→ObjV} (i:Nat)
theorem hid_id:(hidF d P O i).id=(O i).id:=by unfold hidF;split<;>rfl
theorem hid_kind:(hidF d P O i).kind=(O i).kind:=by unfold hidF;split<;>rfl
theorem hid_up:(hidF d P O i).up=(O i).up:=by unfold hidF;split<;>rfl
theorem hid_seen(b:Int)(c:CatL):seenO (hidF d P O i) b c=seenO (O i) b c:=by unfold hidF;split<;>rfl
end
theorem hid_objOk{d:ByteArray}{o:ObjV}(hk:o.kind=1)(h1:plainB o.data 40=true)(h2:plainB d 40=true):objOk (hidO d o)=objOk o:=by
 simp only[objOk,kindB,hidO,hk,h1,h2];rfl
theorem all_same{n:Nat}{p q:Nat→Bool}(h:∀i,i<n→p i=q i):(List.range n).all p=(List.range n).all q:=by
 rw[Bool.eq_iff_iff,List.all_eq_true,List.all_eq_true];constructor
 ·intro a i hi;rw[←h i (List.mem_range.1 hi)];exact a i hi
 ·intro a i hi;rw[h i (List.mem_range.1 hi)];exact a i hi
theorem hid_objsOk{d:ByteArray}{P:Nat→Bool}{O:Nat→ObjV}{n:Nat}(hP:∀i,i<n→P i=true→(O i).kind=1∧plainB (O i).data 40=true)(hd:plainB d 40=true):objsOk n (hidF d P O)=objsOk n O:=by
 have e:(List.range n).all (objAt (hidF d P O))=(List.range n).all (objAt O):=all_same fun i hi=>by
  have e1:objOk (hidF d P O i)=objOk (O i):=by
   cases hp:P i with
   |false=>simp[hidF,hp]
   |true=>simp only[hidF,hp,if_true];exact hid_objOk (hP i hi hp).1 (hP i hi hp).2 hd
  simp only[objAt,e1,hid_id]
 simp only[objsOk,e,rootB,hid_id,hid_kind,hid_up]
theorem hid_kerOk{d:ByteArray}{P:Nat→Bool}(k:KerV)(hP:∀i,i<k.on→P i=true→(k.O i).kind=1∧plainB (k.O i).data 40=true)(hd:plainB d 40=true):
 kerOk ⟨k.ta,k.tn,k.tk,k.T,k.oa,k.on,k.ok,hidF d P k.O⟩=kerOk k:=by
 have e1:∀x,boxAt k.on (hidF d P k.O) x=boxAt k.on k.O x:=fun x=>by simp only[boxAt,hid_id,hid_kind]
 simp only[kerOk,hid_objsOk hP hd,numsOk,upsOk,e1,hid_id,hid_up]
theorem hid_text{d:ByteArray}{P:Nat→Bool}(k:KerV)(b:Int)(c:CatL)(hP:∀i,i<k.on→P i=true→(k.O i).kind=1∧plainB (k.O i).data 40=true)(hd:plainB d 40=true)
 (hs:kerOk k=true→labOkV b c=true→∀i,i<k.on→P i=true→seenO (k.O i) b c=false)(a0 a1:Option Addr)(k0 k1:Nat):
 vText ⟨a0,k.tn,k0,k.T,a1,k.on,k1,hidF d P k.O⟩ b c=vText k b c:=by
 have e:=hid_kerOk k hP hd;unfold vText;have e':kerOk ⟨a0,k.tn,k0,k.T,a1,k.on,k1,hidF d P k.O⟩=kerOk k:=e;rw[e'];by_cases h:kerOk k=true∧labOkV b c=true
 ·rw[if_pos h,if_pos h];have eo:vObj ⟨a0,k.tn,k0,k.T,a1,k.on,k1,hidF d P k.O⟩ b c k.on=vObj k b c k.on:=by
   unfold vObj;congr 1;refine List.map_congr_left fun i hi=>?_;have hi':=List.mem_range.1 hi;simp only[hid_seen];split
   ·rename_i hse;have hp:P i=false:=by
     cases hp:P i with
     |false=>rfl
     |true=>rw[hs h.1 h.2 i hi' hp]at hse;cases hse
    have ek:kidsK ⟨a0,k.tn,k0,k.T,a1,k.on,k1,hidF d P k.O⟩ i=kidsK k i:=(by simp only[kidsK,hid_id,hid_up]);rw[ek];simp[hidF,hp]
   ·rfl
  have et:vThr ⟨a0,k.tn,k0,k.T,a1,k.on,k1,hidF d P k.O⟩ b c k.tn=vThr k b c k.tn:=rfl;show(ByteArray.mk (vHead b c++vThr _ b c k.tn++vObj _ b c k.on).toArray)=_;rw[eo,et]
 ·rw[if_neg h,if_neg h]
def HidL(d:ByteArray)(P:Nat→Bool)(lo lo':List ObjV)(j:Nat):Prop:=lo'.length=lo.length∧∀i,atOwnOb lo' i=hidF d (fun i=>decide (i<j)&&P i) (atOwnOb lo) i
theorem HidL.start(d:ByteArray)(P:Nat→Bool)(lo:List ObjV):HidL d P lo lo 0:=⟨rfl,fun i=>by simp[hidF]⟩
theorem HidL.no{d:ByteArray}{P:Nat→Bool}{lo lo':List ObjV}{j:Nat}(h:HidL d P lo lo' j)(hp:P j=false):HidL d P lo lo' (j+1):=⟨h.1,fun i=>by
 rw[h.2 i];unfold hidF;by_cases e:i=j
 ·subst e;simp[hp]
 ·have e2:decide (i<j+1)=decide (i<j):=decide_eq_decide.2 (by omega);simp only[e2]⟩
theorem HidL.same{d:ByteArray}{P:Nat→Bool}{lo lo':List ObjV}{j:Nat}(h:HidL d P lo lo' j){i:Nat}(hi:j≤i):atOwnOb lo' i=atOwnOb lo i:=by
 rw[h.2 i];have:decide (i<j)=false:=decide_eq_false (by omega);simp[hidF,this]
theorem HidL.yes{d:ByteArray}{P:Nat→Bool}{lo lo':List ObjV}{j:Nat}(h:HidL d P lo lo' j)(hj:j<lo.length)(hp:P j=true):HidL d P lo (lo'.set j (hidO d (atOwnOb lo j))) (j+1):=⟨by simpa using h.1,fun i=>by
 by_cases e:i=j
 ·subst e;rw[atOwnOb_get (by simpa using(h.1▸hj)),List.getElem_set_self];simp[hidF,hp]
 ·have e1:atOwnOb (lo'.set j (hidO d (atOwnOb lo j))) i=atOwnOb lo' i:=by
   simp only[atOwnOb,List.getElem?_set_ne (fun h=>e h.symm),List.getD_eq_getElem?_getD]
  rw[e1,h.2 i];have e2:decide (i<j+1)=decide (i<j):=decide_eq_decide.2 (by omega);simp only[hidF,e2]⟩
theorem KerD.S{lt:List ThrV}{lo:List ObjV}(h:KerD lt lo):StF lt lo:=by
 cases h with
 |right h=>exact StF.of h
 |up h u o d hu ho hd=>
  have f:=StF.of h;refine⟨f.tn,by simpa using f.on,fun x hx=>?_,fun x hx=>?_,f.thr⟩
  ·rcases mem_set hx with rfl|hx
   ·have t:=f.data _ (List.getElem_mem hu);rw[←ho]at t;exact t
   ·exact f.data x hx
  ·rcases mem_set hx with rfl|hx
   ·have t:=f.id _ (List.getElem_mem hu);rw[←ho]at t;exact t
   ·exact f.id x hx
 |kind h u o d hu ho hd=>
  have f:=StF.of h;refine⟨f.tn,by simpa using f.on,fun x hx=>?_,fun x hx=>?_,f.thr⟩
  ·rcases mem_set hx with rfl|hx
   ·have t:=f.data _ (List.getElem_mem hu);rw[←ho]at t;exact t
   ·exact f.data x hx
  ·rcases mem_set hx with rfl|hx
   ·have t:=f.id _ (List.getElem_mem hu);rw[←ho]at t;exact t
   ·exact f.id x hx
 |made h X d ht hX hd=>
  have f:=StF.of h;refine⟨by simpa using f.tn,f.on,f.data,f.id,fun x hx=>?_⟩;rcases mem_set hx with rfl|hx
  ·have t:=f.thr _ (List.getElem_mem ht);rw[←hX]at t;exact t
  ·exact f.thr x hx
theorem stepOk_results(tmps:Array Value)(W:World)(P:Nat)(x0 x1 x2 x3 x4 x5 x6 x7 x8 x9:Value)(h:Blk W P (.cells #[x0,x1,x2,x3,x4,x5,x6,x7,x8,x9] 46))(h2:tmps[2]? =some (.pointer (some ⟨P,0,none⟩))):
 (results Tryz.f19 tmps).run Tryz.prog W= .ok (.agg #[x0,x1,x2,x3,x4,x5,x6,x7,x8,x9]) W:=by
 obtain⟨z0,z1,z2,z3,z4,z5,z6,z7,z8,z9⟩:=h.ten;simp[results,Tryz.results19,go_sem,h2,z0,z1,z2,z3,z4,z5,z6,z7,z8,z9]
theorem drawStepOk_any(a:Option Addr)(n cap:Nat)(w:World)(hn:n≤1048576)(hb:BytesAt w a n):
 Calls Tryz.prog 19 #[.slice a n cap] w fun e w'=>∃s:StepV,e= .returned (.agg #[.int .i64 s.th,.int .i64 s.kind,.int .i64 s.id,.int .i64 s.to,.int .i64 s.cat,.string s.data,.int .i64 s.b1,.slice s.c1.a s.c1.n s.c1.k,.int .i64 s.b2,.slice s.c2.a s.c2.n s.c2.k])∧(s.data.size≤100∧plainB s.data 6=true)∧Below w.heap.size w w':=by
 have R0:=hid (Blk.new w (.cells #[.int .i64 0,.int .i64 0,.int .i64 0,.int .i64 0,.int .i64 0,.string ⟨#[]⟩,.int .i64 0,.slice none 0 0,.int .i64 0,.slice none 0 0] 46));have B0:Hid (Below w.heap.size w (w.alloc (.cells #[.int .i64 0,.int .i64 0,.int .i64 0,.int .i64 0,.int .i64 0,.string ⟨#[]⟩,.int .i64 0,.slice none 0 0,.int .i64 0,.slice none 0 0] 46))):=hid ((Below.refl _ w).alloc (Nat.le_refl _) _);have HB:=hid (hb.below B0.out);clear hb;go_enter Tryz.func19,Tryz.ntmps19
 go_wp2_with fail
 generalize w.alloc (.cells #[.int .i64 0,.int .i64 0,.int .i64 0,.int .i64 0,.int .i64 0,.string ⟨#[]⟩,.int .i64 0,.slice none 0 0,.int .i64 0,.slice none 0 0] 46)=V at *;refine(l1Open_any a n cap V hn HB.out).mono ?_;rintro e w1 ⟨rb,rfl,r1⟩;have R1:=hid r1;clear r1;go_wp2_with fail
 refine(rdKernel_any V rb a n cap w1 R1.out 6 (by omega)).mono ?_;rintro e w2 ⟨lt,lo,g,ca,q,co,rfl,ks,kd,r2,g2⟩;have KS:=hid ks;have KD:=hid kd;have R2:=hid r2;clear ks kd r2 g2;go_wp2_with fail
 refine(rdStep_any V rb a n cap w2 R2.out lt lo g ca q co w1.heap.size KS.out R1.out.lt KD.out.S).mono ?_;rintro e w3 ⟨s,rfl,sa,r3,g3⟩;have RB:=hid (R0.out.below r3.E);have LB:=hid (then_ B0.out r3.E);have SA:=hid sa;clear sa r3 g3;obtain⟨z0,z1,z2,z3,z4,z5,z6,z7,z8,z9⟩:=RB.out.ten;have zf:=RB.out.warm;go_wp2;refine bodyPost_ret (stepOk_results _ _ w.heap.size (.int .i64 s.th) (.int .i64 s.kind) (.int .i64 s.id) (.int .i64 s.to) (.int .i64 s.cat) (.string s.data) (.int .i64 s.b1) (.slice s.c1.a s.c1.n s.c1.k) (.int .i64 s.b2) (.slice s.c2.a s.c2.n s.c2.k) (blk_set10 RB.out (.int .i64 s.th) (.int .i64 s.kind) (.int .i64 s.id) (.int .i64 s.to) (.int .i64 s.cat) (.string s.data) (.int .i64 s.b1) (.slice s.c1.a s.c1.n s.c1.k) (.int .i64 s.b2) (.slice s.c2.a s.c2.n s.c2.k)) rfl) rfl ⟨s,rfl,SA.out.2.2,?_⟩;exact set10 LB.out (Nat.le_refl _) (.int .i64 s.th) (.int .i64 s.kind) (.int .i64 s.id) (.int .i64 s.to) (.int .i64 s.cat) (.string s.data) (.int .i64 s.b1) (.slice s.c1.a s.c1.n s.c1.k) (.int .i64 s.b2) (.slice s.c2.a s.c2.n s.c2.k)
theorem KerD.plain{lt:List ThrV}{lo:List ObjV}(h:KerD lt lo):∀x∈lo,plainB x.data 40=true:=by
 cases h with
 |right h=>exact fun x hx=>(okL_obj h x hx).data
 |up h u o d hu ho hd=>
  intro x hx;rcases mem_set hx with rfl|hx
  ·have:=(okL_obj h _ (List.getElem_mem hu)).data;rw[←ho]at this;exact this
  ·exact(okL_obj h x hx).data
 |kind h u o d hu ho hd=>
  intro x hx;rcases mem_set hx with rfl|hx
  ·have:=(okL_obj h _ (List.getElem_mem hu)).data;rw[←ho]at this;exact this
  ·exact(okL_obj h x hx).data
 |made h X d ht hX hd=>exact fun x hx=>(okL_obj h x hx).data
theorem plain_more{d:ByteArray}(h:plainB d 6=true):plainB (d++⟨#[120]⟩) 40=true:=by
 simp only[plainB,Bool.and_eq_true,decide_eq_true_eq,List.all_eq_true]at h ⊢;have e:(d++⟨#[120]⟩).data.toList=d.data.toList++[120]:=by simp[ByteArray.data_append]
 have es:(d++⟨#[120]⟩).size=d.size+1:=by rw[ByteArray.size_append];rfl
 refine⟨fun x hx=>?_,by rw[es];omega⟩;rw[e]at hx;rcases List.mem_append.1 hx with hx|hx
 ·exact h.1 x hx
 ·obtain rfl:=List.mem_singleton.1 hx;decide
structure HSt(w0 wr:World)(lt:List ThrV)(lo:List ObjV)(g ca q co C D:Nat)(b:Int)(c:CatL)(SV:Array Value)(L:List Int)(la:Option Addr)(lc:Nat):Prop where
 k:KSt wr w0.heap.size (.slice (some ⟨g,0,none⟩) lt.length ca) (.slice (some ⟨q,0,none⟩) lo.length co) lt lo
 bk:Blk wr C (.cells #[.slice (some ⟨g,0,none⟩) lt.length ca,.slice (some ⟨q,0,none⟩) lo.length co] 27)
 bl:Blk wr (C+1) (.cells #[.int .i64 b,.slice c.a c.n c.k] 30)
 bs:Blk wr D (.cells SV 46)
 l:IntL.new 0 wr ⟨la,L.length,lc,nthI L⟩
 c:c.new 0 wr
 e:Below w0.heap.size w0 wr
section
variable {w0 wr w':World}{lt:List ThrV}{lo:List ObjV}{g ca q co C D:Nat}{b:Int}{c:CatL}{SV:Array Value}{L:List Int}{la:Option Addr}{lc:Nat}
theorem HSt.below(h:HSt w0 wr lt lo g ca q co C D b c SV L la lc)(hb:Below wr.heap.size wr w'):HSt w0 w' lt lo g ca q co C D b c SV L la lc:=
 ⟨h.k.below hb,h.bk.below hb,h.bl.below hb,h.bs.below hb,h.l.below hb,h.c.below hb,then_ h.e hb⟩
theorem HSt.set(h:HSt w0 wr lt lo g ca q co C D b c SV L la lc){u:Nat}(hu:u<lo.length)(d:ByteArray):
 HSt w0 (wr.setCell ⟨q,u*10+5,none⟩ (.string d)) lt (lo.set u (hidO d (atOwnOb lo u))) g ca q co C D b c SV L la lc:=by
 have ho:atOwnOb lo u=lo[u]:=atOwnOb_get hu;obtain⟨k1,⟨cur,hq⟩,hg⟩:=h.k.setData (d:=d) hu ho;have el:(lo.set u (hidO d (atOwnOb lo u))).length=lo.length:=by simp
 refine⟨?_,?_,h.bl.other (blk_ne hq h.bl (by decide)) _,h.bs.other (blk_ne hq h.bs (by decide)) _,h.l.keeps (keeps_set hq (by decide) _),h.c.keeps (keeps_set hq (by decide) _),h.e.setCell hg _⟩
 ·rw[el];exact k1
 ·rw[el];exact h.bk.other (blk_ne hq h.bk (by decide)) _
end
theorem HidL.data{d:ByteArray}{P:Nat→Bool}{lo lo':List ObjV}{j:Nat}(h:HidL d P lo lo' j)(hd:d.size≤maxLen)(ho:∀x∈lo,x.data.size≤maxLen):∀x∈lo',x.data.size≤maxLen:=fun x hx=>by
 obtain⟨i,hi,e⟩:=List.mem_iff_getElem.1 hx;have hi':i<lo.length:=by rw[←h.1];exact hi
 rw[←e,←atOwnOb_get hi,h.2 i];unfold hidF;split
 ·exact hd
 ·rw[atOwnOb_get hi'];exact ho _ (List.getElem_mem hi')
theorem HidL.wf{d:ByteArray}{P:Nat→Bool}{lo lo':List ObjV}{j:Nat}(h:HidL d P lo lo' j)(hw:∀i,i<lo.length→(Lit.int .i64 (atOwnOb lo i).id).wf=true∧(Lit.int .i64 (atOwnOb lo i).up).wf=true):
 ∀i,i<lo'.length→(Lit.int .i64 (atOwnOb lo' i).id).wf=true∧(Lit.int .i64 (atOwnOb lo' i).up).wf=true:=fun i hi=>by
 rw[h.2 i,hid_id,hid_up];exact hw i (by rw[←h.1];exact hi)
theorem hidden_walk(a:Option Addr)(n cap:Nat)(w:World)(hb:1048576<n∨BytesAt w a n)(tab:Tab w):
 Calls Tryz.prog 4 #[.slice a n cap] w fun e w'=>e= .returned (.bool true)∧Below w.heap.size w w':=by
 have HB:=hid hb;have TB:=hid tab;clear hb tab;go_enter Tryz.func4,Tryz.ntmps4
 go_wp2_with fail
 refine(big_any a n cap w).mono ?_;rintro e w0 ⟨rfl,rfl⟩;by_cases hbig:1048576<n
 ·have e1:decide (1048576<n)=true:=decide_eq_true hbig;rw[e1];go_wp2;go_ret;exact⟨rfl,Below.refl _ _⟩
 have e1:decide (1048576<n)=false:=decide_eq_false hbig;rw[e1];clear e1;go_wp2_with fail
 refine(drawView_any a n cap w0 (by omega) (HB.out.resolve_left hbig)).mono ?_;rintro e w1 ⟨lt,lo,g,ca,q,co,b,c,rfl,ks,kd,hc,cn,b1⟩;have b2:Below w1.heap.size w1 ((w1.alloc (.cells #[.slice (some ⟨g,0,none⟩) lt.length ca,.slice (some ⟨q,0,none⟩) lo.length co] 27)).alloc (.cells #[.int .i64 b,.slice c.a c.n c.k] 30)):=((Below.refl _ w1).alloc (Nat.le_refl _) _).alloc (by simp) _;have KS:Hid (KSt ((w1.alloc (.cells #[.slice (some ⟨g,0,none⟩) lt.length ca,.slice (some ⟨q,0,none⟩) lo.length co] 27)).alloc (.cells #[.int .i64 b,.slice c.a c.n c.k] 30)) w0.heap.size (.slice (some ⟨g,0,none⟩) lt.length ca) (.slice (some ⟨q,0,none⟩) lo.length co) lt lo):=hid (ks.below b2);have KF:=hid kd.F;have PL:=hid kd.plain;have CN:=hid ((cn.below b2).low (Nat.zero_le _));have LB:Hid (Below w0.heap.size w0 ((w1.alloc (.cells #[.slice (some ⟨g,0,none⟩) lt.length ca,.slice (some ⟨q,0,none⟩) lo.length co] 27)).alloc (.cells #[.int .i64 b,.slice c.a c.n c.k] 30))):=hid (then_ b1 b2);have CB:Hid (Blk ((w1.alloc (.cells #[.slice (some ⟨g,0,none⟩) lt.length ca,.slice (some ⟨q,0,none⟩) lo.length co] 27)).alloc (.cells #[.int .i64 b,.slice c.a c.n c.k] 30)) w1.heap.size (.cells #[.slice (some ⟨g,0,none⟩) lt.length ca,.slice (some ⟨q,0,none⟩) lo.length co] 27)):=hid ((Blk.new w1 _).alloc _);have SB:Hid (Blk ((w1.alloc (.cells #[.slice (some ⟨g,0,none⟩) lt.length ca,.slice (some ⟨q,0,none⟩) lo.length co] 27)).alloc (.cells #[.int .i64 b,.slice c.a c.n c.k] 30)) (w1.heap.size+1) (.cells #[.int .i64 b,.slice c.a c.n c.k] 30)):=hid (by have:=Blk.new (w1.alloc (.cells #[.slice (some ⟨g,0,none⟩) lt.length ca,.slice (some ⟨q,0,none⟩) lo.length co] 27)) (.cells #[.int .i64 b,.slice c.a c.n c.k] 30);simpa using this);clear ks kd cn b1 b2;go_upto_region 4 with fail
 generalize ((w1.alloc (.cells #[.slice (some ⟨g,0,none⟩) lt.length ca,.slice (some ⟨q,0,none⟩) lo.length co] 27)).alloc (.cells #[.int .i64 b,.slice c.a c.n c.k] 30))=W2 at *;generalize w1.heap.size=C at *;obtain⟨x0,x1⟩:=CB.out.two;obtain⟨y0,y1⟩:=SB.out.two;have wfs:Hid ((kOf (some ⟨g,0,none⟩) ca (some ⟨q,0,none⟩) co lt lo).wfs):=hid KF.out.wf;have CAP:Hid (lo.length≤co):=hid (own_cap KS.out.o).1;obtain⟨T,et⟩:∃T,T=vText (kOf (some ⟨g,0,none⟩) ca (some ⟨q,0,none⟩) co lt lo) b c:=⟨_,rfl⟩;have ET:=hid et;have I0:=hid (implView_any (kOf (some ⟨g,0,none⟩) ca (some ⟨q,0,none⟩) co lt lo) b c W2 (KS.out.kat KF.out) CAP.out wfs.out CN.out.1 (TB.out.below LB.out));rw[←et]at I0;clear et;go_wp2_with fail
 refine I0.out.mono ?_;rintro e w3 ⟨rfl,b3⟩;have D3:=hid b3;clear b3 x0 x1 y0 y1 I0;obtain⟨x0,x1⟩:=(CB.out.below D3.out).two;obtain⟨y0,y1⟩:=(SB.out.below D3.out).two;have I1:=hid (specView_any (kOf (some ⟨g,0,none⟩) ca (some ⟨q,0,none⟩) co lt lo) b c w3 ((KS.out.below D3.out).kat KF.out) wfs.out (CN.out.below D3.out).1);rw[←ET.out]at I1;go_wp2_with fail
 refine I1.out.mono ?_;rintro e w4 ⟨rfl,b4⟩;have D4:=hid (then_ D3.out b4);clear b4 x0 x1 y0 y1 I1 D3;go_upto_region 7 with fail
 obtain⟨x0,x1⟩:=(CB.out.below D4.out).two;obtain⟨y0,y1⟩:=(SB.out.below D4.out).two;have I2:=hid (implSeen_any (kOf (some ⟨g,0,none⟩) ca (some ⟨q,0,none⟩) co lt lo) b c w4 ((KS.out.below D4.out).kat KF.out) CAP.out wfs.out (CN.out.below D4.out).1);go_wp2_with fail
 refine I2.out.mono ?_;rintro e w5 ⟨v,rfl,ov,b5⟩;obtain⟨la,lc,rfl⟩:=OwnI.form ov;obtain⟨L,el⟩:∃L,L=seenL (kOf (some ⟨g,0,none⟩) ca (some ⟨q,0,none⟩) co lt lo) b c:=⟨_,rfl⟩;have EL:=hid el;have ll:L.length≤271:=by rw[el];exact seenL_len _ _ _
 rw[←el]at ov ⊢;have LA5:=hid ((ov.newL (by omega)).low (Nat.zero_le _));have D5:=hid (then_ D4.out b5);clear ov b5 el I2 x0 x1 y0 y1 D4;have HB5:=hid (((HB.out.resolve_left hbig).below LB.out).below D5.out);go_wp2_with fail
 refine(drawStepOk_any a n cap w5 (by omega) HB5.out).mono ?_;rintro e w6 ⟨s,rfl,hs,b6⟩;have b7:Below w6.heap.size w6 (w6.alloc (.cells #[.int .i64 s.th,.int .i64 s.kind,.int .i64 s.id,.int .i64 s.to,.int .i64 s.cat,.string s.data,.int .i64 s.b1,.slice s.c1.a s.c1.n s.c1.k,.int .i64 s.b2,.slice s.c2.a s.c2.n s.c2.k] 46)):=(Below.refl _ w6).alloc (Nat.le_refl _) _;have b8:=then_ b6 b7;have ds:s.data.size≤100:=hs.1;have d6:s.data.size≤6:=by have:=hs.2;simp only[plainB,Bool.and_eq_true,decide_eq_true_eq]at this;omega
 have PD:=hid (plain_more hs.2);have H0:Hid (HSt w0 (w6.alloc (.cells #[.int .i64 s.th,.int .i64 s.kind,.int .i64 s.id,.int .i64 s.to,.int .i64 s.cat,.string s.data,.int .i64 s.b1,.slice s.c1.a s.c1.n s.c1.k,.int .i64 s.b2,.slice s.c2.a s.c2.n s.c2.k] 46)) lt lo g ca q co C w6.heap.size b c #[.int .i64 s.th,.int .i64 s.kind,.int .i64 s.id,.int .i64 s.to,.int .i64 s.cat,.string s.data,.int .i64 s.b1,.slice s.c1.a s.c1.n s.c1.k,.int .i64 s.b2,.slice s.c2.a s.c2.n s.c2.k] L la lc):=hid
  ⟨(KS.out.below D5.out).below b8,(CB.out.below D5.out).below b8,(SB.out.below D5.out).below b8,Blk.new w6 _,LA5.out.below b8,(CN.out.below D5.out).below b8,then_ LB.out (then_ D5.out b8)⟩
 clear KS CB SB LA5 CN LB D5 HB5 HB b6 b7 b8 hs hbig;go_upto_region 9 with fail
 generalize w6.alloc (.cells #[.int .i64 s.th,.int .i64 s.kind,.int .i64 s.id,.int .i64 s.to,.int .i64 s.cat,.string s.data,.int .i64 s.b1,.slice s.c1.a s.c1.n s.c1.k,.int .i64 s.b2,.slice s.c2.a s.c2.n s.c2.k] 46)=W7 at *;generalize w6.heap.size=D at *;obtain⟨P,eP⟩:∃P:Nat→Bool,P=fun i=>decide ((atOwnOb lo i).kind=1)&& !hasB L.length (nthI L) (atOwnOb lo i).id:=⟨_,rfl⟩;have EP:=hid eP;obtain⟨d,ed⟩:∃d,d=s.data++⟨#[120]⟩:=⟨_,rfl⟩;have ED:=hid ed;have HS:=hid (HidL.start d P lo);have dsz:Hid (d.size≤maxLen):=hid (by rw[ed,ByteArray.size_append];have:(⟨#[120]⟩:ByteArray).size=1:=rfl;unfold maxLen;omega);rw[←ed]at PD;clear eP ed;go_wp2_with fail
 go_loopw [8] (fun i wr=>∃(j:Nat) (lo2:List ObjV),j≤lo.length∧i= .int .i64 j∧Hid (HidL d P lo lo2 j)∧Hid (HSt w0 wr lt lo2 g ca q co C D b c #[.int .i64 s.th,.int .i64 s.kind,.int .i64 s.id,.int .i64 s.to,.int .i64 s.cat,.string s.data,.int .i64 s.b1,.slice s.c1.a s.c1.n s.c1.k,.int .i64 s.b2,.slice s.c2.a s.c2.n s.c2.k] L la lc)) (fun i _=>lo.length-(intOf i).toNat)
 case atStart=>exact⟨0,lo,Nat.zero_le _,rfl,HS,H0⟩
 case round=>
  clear HS H0;obtain⟨j,lo2,hj,rfl,HS,H0⟩:=hrel;have len:lo2.length=lo.length:=HS.out.1;obtain⟨k0,k1⟩:=H0.out.bk.two;rw[len]at k1;by_cases hlt:j<lo.length
  ·have i2:(j:Int)<(lo.length:Int):=(by omega);have i3:(0:Int)≤(j:Int):=(by omega);have HLT:=hid hlt;have hl2:j<lo2.length:=(by omega);obtain⟨o,eo⟩:∃o,o=atOwnOb lo j:=⟨_,rfl⟩;have e2:atOwnOb lo2 j=o:=(HS.out.same (Nat.le_refl j)).trans eo.symm;have C10:Cells10 wr q (j*10) o:=by
    have:=(H0.out.k.cell10 hl2 (HS.out.data dsz.out KF.out.data)).1;rw[←atOwnOb_get hl2,e2]at this;exact this
   have E2:=hid e2;have EO:=hid eo;obtain⟨c0,c1,c2,c3,c4,c5,c6,c7,c8,c9⟩:=C10;clear c2 c3 c4 c6 c7 c8 c9 eo e2;have w1:IntKind.i64.wrap ((j:Int)+1)=(j:Int)+1:=(by have:=KF.out.on.2;rw[IntKind.wrap_i64];omega);by_cases hk:o.kind=1
   ·have hk1:(o.kind==1)=true:=(by simpa using hk);obtain⟨hh,ehh⟩:∃hh,hh=hasB L.length (nthI L) o.id:=⟨_,rfl⟩;have HH:=hid ehh;have HC:=hid (lawHas_any la L.length lc (nthI L) o.id wr H0.out.l.1.1 H0.out.l.1.2);rw[←ehh]at HC;have HK:=hid hk;clear ehh hk;go_wp2_with fail
    refine HC.out.mono ?_;rintro e w9 ⟨rfl,h9⟩;have h9':=h9.symm;subst h9';cases hh with
    |true=>
     go_wp2;go_roundw;case rel=>exact⟨j+1,lo2,by have:=HLT.out;omega,by go_num,hid (HS.out.no (by rw[EP.out];simp only[←EO.out,←HH.out];simp)),H0⟩
     case measure=>have:=HLT.out;simp[intOf];omega
    |false=>
     obtain⟨s0,s1,s2,s3,s4,s5,s6,s7,s8,s9⟩:=H0.out.bs.ten;obtain⟨_,⟨cur,hq⟩,_⟩:=H0.out.k.setData (d:=d) hl2 rfl;have qw:=hq.warm;go_wp2;go_roundw;case rel=>
      refine⟨j+1,lo2.set j (hidO d (atOwnOb lo j)),by have:=HLT.out;omega,by go_num,hid (HS.out.yes HLT.out (by rw[EP.out];simp only[←EO.out,←HH.out,HK.out];simp)),hid ?_⟩;have:=H0.out.set hl2 d;rw[E2.out,EO.out,ED.out]at this;rw[ED.out];exact this
     case measure=>have:=HLT.out;simp[intOf];omega
   ·have hk1:(o.kind==1)=false:=(by simpa using hk);go_wp2;go_roundw;case rel=>exact⟨j+1,lo2,by have:=HLT.out;omega,by go_num,hid (HS.out.no (by rw[EP.out];simp only[←EO.out,hk];simp)),H0⟩
    case measure=>have:=HLT.out;simp[intOf];omega
  ·obtain rfl:j=lo.length:=by omega
   have i2:¬(lo.length:Int)<(lo.length:Int):=(by omega);have i4:¬(40:Int)≤(s.data.size:Int):=(by omega);obtain⟨s0,s1,s2,s3,s4,s5,s6,s7,s8,s9⟩:=H0.out.bs.ten;obtain⟨y0,y1⟩:=H0.out.bl.two;have VT:Hid (Calls Tryz.prog 12 #[.agg #[.slice (some ⟨g,0,none⟩) lt.length ca,.slice (some ⟨q,0,none⟩) lo.length co],.agg #[.int .i64 b,.slice c.a c.n c.k]] wr fun e w'=>e= .returned (.string T)∧Below wr.heap.size wr w'):=hid (by
    have h:=implView_any (kOf (some ⟨g,0,none⟩) ca (some ⟨q,0,none⟩) co lt lo2) b c wr (H0.out.k.at (by have:=KF.out.tn.2;omega) (by have:=KF.out.on.2;omega) (HS.out.data dsz.out KF.out.data)) (by show lo2.length≤co;rw[len];exact CAP.out) (HS.out.wf KF.out.wf) H0.out.c.1 (TB.out.below H0.out.e);have e:vText (kOf (some ⟨g,0,none⟩) ca (some ⟨q,0,none⟩) co lt lo2) b c=T:=by
     rw[ET.out];have eo:atOwnOb lo2=hidF d (fun i=>decide (i<lo.length)&&P i) (atOwnOb lo):=funext HS.out.2;have:=hid_text (d:=d) (P:=fun i=>decide (i<lo.length)&&P i) (kOf (some ⟨g,0,none⟩) ca (some ⟨q,0,none⟩) co lt lo) b c (fun i hi hp=>by
      rw[EP.out]at hp;simp only[Bool.and_eq_true,decide_eq_true_eq]at hp;refine⟨hp.2.1,?_⟩;show plainB (atOwnOb lo i).data 40=true;rw[atOwnOb_get hp.1];exact PL.out _ (List.getElem_mem hp.1)) PD.out (fun h1 h2 i hi hp=>by
      rw[EP.out]at hp;simp only[Bool.and_eq_true,decide_eq_true_eq,Bool.not_eq_true']at hp;have:=seen_has h1 h2 (k:=(kOf (some ⟨g,0,none⟩) ca (some ⟨q,0,none⟩) co lt lo)) (j:=i) hi;rw[←EL.out]at this;exact this.symm.trans hp.2.2) (some ⟨g,0,none⟩) (some ⟨q,0,none⟩) ca co
     rw[←this];show vText ⟨_,lt.length,ca,atOwnT lt,_,lo2.length,co,atOwnOb lo2⟩ b c=_;rw[eo,len];rfl
    rw[e]at h;unfold KerV.val at h;simp only[kOf,len]at h;exact h)
   go_wp2_with fail
   refine VT.out.mono ?_;rintro e w9 ⟨rfl,hb9⟩;have D9:=hid (then_ H0.out.e hb9);clear hb9;go_wp2_with fail
   go_ret;exact⟨rfl,D9.out⟩
open Go.ChangeShapes Go.WideShapes Go.ChangeAt Go.Joins
theorem Tryz.ownKnob:Go.ownKnob Tryz.prog.godebug=none:=by kernel_rfl
theorem Tryz.laidOut:laidOutB Tryz.prog=true:=by kernel_rfl
theorem cell_lt{w:World}{b o:Nat}{v:Value}(h:w.cell? ⟨b,o,none⟩=some v):b<w.heap.size:=by
 apply Nat.lt_of_not_le;intro hle;have:w.heap[b]? =none:=Array.getElem?_eq_none hle;simp[World.cell?,this]at h
theorem Tryz.cells5:Tryz.prog.cellsOf 5=1:=by kernel_rfl
theorem open_codeArg{H:Type}{enc:TypeId×Value→H}{W:World}{base:Nat}{v1:Value}{d1:DataW H}{p1:List MemPlace}(hval:Value.okWide Tryz.prog W .any base 22 v1)(h1:DataW.Trod enc Tryz.prog W 0 (fun _=>true) true 22 v1 d1 p1):
 ∃a n cap,v1= .slice a n cap∧BytesAt W a n:=by
 obtain⟨a1,len,cap,rfl⟩:=okWide_slice Tryz.underlying22 hval;obtain⟨fuel,hf⟩:=h1;rcases open_ints Tryz.underlying22 Tryz.underlying5 Tryz.cells5 hf with⟨hcs,hx⟩|⟨a,len',cap',zs,hcs,_,hl,hm,hz,hx,hcell,hwz⟩
 ·simp[Value.cells]at hcs;obtain⟨rfl,rfl,rfl⟩:=hcs;exact⟨none,0,0,rfl,fun h=>by omega⟩
 ·simp[Value.cells]at hcs;obtain⟨rfl,rfl,rfl⟩:=hcs;simp only[if_true]at hz;obtain⟨ab,ao,spot⟩:=a;refine⟨_,_,_,rfl,fun h0=>?_⟩;have hspot:spot=none:=by simpa[Addr.add]using World.cell?_spot (hcell 0 (by omega))
  subst hspot;have h00:=hcell 0 (by omega);rw[Addr.add_lit]at h00;refine⟨ab,ao,rfl,cell_lt h00,fun i hi=>?_⟩;have hi':=hcell i (by omega);rw[Addr.add_lit]at hi';have hb:=range_u8 hwz i;rw[List.getD_eq_getElem?_getD]at hi';exact⟨_,hi',hb.1,by omega⟩
end Go.Proofs.YtbacmamplkdgaaaGreatDoor
