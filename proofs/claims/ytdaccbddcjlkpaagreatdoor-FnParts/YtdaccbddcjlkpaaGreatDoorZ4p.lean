import Derived.Test.YtdaccbddcjlkpaaGreatDoorZ3p
set_option maxRecDepth 100000
set_option maxHeartbeats 16000000
namespace Go.Proofs.YtdaccbddcjlkpaaGreatDoor
open Go Go.RowKit Go.Deep Go.Maps Go.BigFrame Go.Shelf Go.Proofs.Tryz
open Go.Value renaming slice→qV,int→iT
open Go.IntKind renaming i64→qH
open Go.Obj renaming cells→qG
open _root_.List renaming not_mem_nil→kH,getElem→jW
open Go.World renaming ownsRow→qq
open _root_.Nat renaming not_lt_zero→xV,zero_le→qy,lt_of_lt_of_le→qv
open Go.RowKit renaming Below→qN
variable {w wr w':World}{k:Av}{vt vo:Value}{lt:List Ae}{lo:List Ab}{u:Ae}{a:Option Addr}{c:Nat}
def Ih{F:Func}(tmps:Array Value)(W:World)(P n:Nat)(x y:Value)(hF:F.results=#[.cell n 27])(h:Ag W P (qG #[x,y] 27))(h2:tmps[n]? =some (.pointer P)):
 (results F tmps).run prog W= .ok (.agg #[x,y]) W:=by
 obtain⟨z0,z1⟩:=h.two;simp[results,hF,go_sem,h2,z0,z1]
structure KU(w:World)(k:Av)(wr:World)(vt vo:Value)(lt:List Ae)(lo:List Ab):Prop where
 st:Bz wr w vt vo lt lo
 st1:∀i,i<lt.length->(k.T i).same (Be lt i)
 so1:∀i,i<lo.length->(k.O i).same (Aa lo i)
 a:Ag wr w (qG #[qV k.ta k.tn k.tk,qV k.oa k.on k.ok] 27)
 r:Ag wr (w.heap.size+1) (qG #[qV none 0 0,qV none 0 0] 27)
 o:Ag wr (w.heap.size+1+1) (qG #[vt,vo] 27)
 be:qN w w wr
def KU.below{wr':World}(h:KU w k wr vt vo lt lo)(hb:qN wr wr wr'):KU w k wr' vt vo lt lo:=
 ⟨h.st.below hb,h.st1,h.so1,h.a.below hb,h.r.below hb,h.o.below hb,h.be.trans (hb.mono h.be.size)⟩
def Ov:(∀i,i<lt.length->Be (lt++[u]) i=Be lt i)/\Be (lt++[u]) lt.length=u:=⟨fun i hi=>by simp[Be,jW?_append,hi],by simp[Be]⟩
def PM{u:Ab}:(∀i,i<lo.length->Aa (lo++[u]) i=Aa lo i)/\Aa (lo++[u]) lo.length=u:=⟨fun i hi=>by simp[Aa,jW?_append,hi],by simp[Aa]⟩
def KU.addT(h:KU w k wr vt vo lt lo)(ho:Du w' w (qV a (lt.length+1) c) (lt++[u]))(hg:wr.grownBy w' vt.ownBlock)(hu:u.new w wr)(hs:(k.T lt.length).same u)(hc:u.own.n<=u.own.k/\u.own.k<=maxLen):
 Ag w' (w.heap.size+1+1) (qG #[vt,vo] 27)/\KU w k (w'.setCell ⟨w.heap.size+1+1,0,none⟩ (qV a (lt.length+1) c)) (qV a (lt.length+1) c) vo (lt++[u]) lo:=by
 obtain⟨k1,kk⟩:=h.st.addT ho hg hu hc;have o1:Ag w' (w.heap.size+1+1) (qG #[vt,vo] 27):=kk.blk h.o qX qX;have b1:qN w wr w':=below_grown hg h.be.size (fun j e=>(qq.lt h.st.t j e).1);refine⟨o1,k1.set o1 (.inl rfl) _,fun i hi=>?_,h.so1,(kk.blk h.a qX qX).other qQ _,(kk.blk h.r qX qX).other qQ _,o1.jB (i:=0) _,(h.be.trans b1).setCell qJ _⟩;by_cases e:i<lt.length
 ·rw[Ov.1 i e];exact h.st1 i e
 ·have:i=lt.length:=by simp at hi;omega
  rw[this,Ov.2];exact hs
def KU.addO{u:Ab}(h:KU w k wr vt vo lt lo)(ho:AW w' w (qV a (lo.length+1) c) (lo++[u]))(hg:wr.grownBy w' vo.ownBlock)(hu:u.new w wr)(hs:(k.O lo.length).same u)(hc:u.jA.n<=u.jA.k/\u.jA.k<=maxLen):
 Ag w' (w.heap.size+1+1) (qG #[vt,vo] 27)/\KU w k (w'.setCell ⟨w.heap.size+1+1,1,none⟩ (qV a (lo.length+1) c)) vt (qV a (lo.length+1) c) lt (lo++[u]):=by
 obtain⟨k1,kk⟩:=h.st.addO ho hg hu hc;have o1:Ag w' (w.heap.size+1+1) (qG #[vt,vo] 27):=kk.blk h.o qX qX;have b1:qN w wr w':=below_grown hg h.be.size (fun j e=>(qq.lt h.st.o j e).1);refine⟨o1,k1.set o1 (.inl rfl) _,h.st1,fun i hi=>?_,(kk.blk h.a qX qX).other qQ _,(kk.blk h.r qX qX).other qQ _,o1.jB (i:=1) _,(h.be.trans b1).setCell qJ _⟩;by_cases e:i<lo.length
 ·rw[PM.1 i e];exact h.so1 i e
 ·have:i=lo.length:=by simp at hi;omega
  rw[this,PM.2];exact hs
def PH(k:Av)(w:World)(hk:k.at w)(hs:k.small):
 Calls prog 15 #[k.val] w fun e w'=>∃(lt:List Ae) (lo:List Ab) (ta oa:Option Addr) (ca co:Nat),e= .returned (.agg #[qV ta lt.length ca,qV oa lo.length co])/\Bz w' w (qV ta lt.length ca) (qV oa lo.length co) lt lo/\k.same (Df ta ca oa co lt lo)/\qN w w w':=by
 have HT:=qC hk.2.2.1;have HO:=qC hk.2.2.2;have SMALL:=qC hs;have n2:No (qG #[qV none 0 0,qV none 0 0] 27):=⟨⟩;have n3:No (qG #[qV k.ta k.tn k.tk,qV k.oa k.on k.ok] 27):=⟨⟩;have n4:Nw (((w.alloc n3).alloc n2).alloc n2):=⟨⟩;have b0:qN w w n4:=((Bg w _).alloc sI _).alloc sO _;have S0:Hid (KU w k n4 (qV none 0 0) (qV none 0 0) [] []):=qC ⟨⟨Du.nil _ _,AW.nil _ _,fun x hx=>absurd hx kH,fun x hx=>absurd hx kH,fun x hx=>absurd hx kH,fun x hx=>absurd hx kH⟩,fun i hi=>absurd hi (xV i),fun i hi=>absurd hi (xV i),((Ag.new w n3).alloc _).alloc _,(by have:=(Ag.new (w.alloc n3) n2).alloc n2;simpa using this),(by have:=Ag.new ((w.alloc n3).alloc n2) n2;simpa using this),b0⟩;clear hk hs b0;unfold Av.val;go_enter func15,ntmps15
 go_wp2;go_loopw [4] (fun i wr=>∃(lt:List Ae) (ta:Option Addr) (ca:Nat),lt.length<=k.tn/\i= iT qH lt.length/\KU w k wr (qV ta lt.length ca) (qV none 0 0) lt []) (fun i _=>k.tn-(intOf i).toNat)
 case atStart=>exact⟨[],none,0,qy _,rfl,S0⟩
 case round=>
  clear S0;obtain⟨lt,ta,ca,hl,rfl,st⟩:=hrel;have S1:=qC st;clear st;by_cases hlt:lt.length<k.tn
  ·have i1:(lt.length:Int)<(k.tn:Int):=qQ;have i0:(0:Int)<=(lt.length:Int):=qQ;obtain⟨b,off,ea,hbl,hc⟩:=HT.out qQ;have bd:qN wr wr wr.drew:=(Below.refl _ wr).drew;have SD:=qC (S1.out.below bd);have CC:FA wr.drew b (off+lt.length*7) (k.T lt.length):=(hc lt.length hlt).1.below hbl ((Below.refl _ w).trans (SD.out.be.mono nr));have q0:wr.drew.cell? ⟨b,off+lt.length*7,none⟩=some (iT qH (k.T lt.length).id):=CC.c0;have q1:wr.drew.cell? ⟨b,off+lt.length*7+1,none⟩=some (iT qH (k.T lt.length).b1):=CC.c1;have q2:wr.drew.cell? ⟨b,off+lt.length*7+2,none⟩=some (qV (k.T lt.length).c1.a (k.T lt.length).c1.n (k.T lt.length).c1.k):=CC.c2;have q3:wr.drew.cell? ⟨b,off+lt.length*7+3,none⟩=some (iT qH (k.T lt.length).b2):=CC.c3;have q4:wr.drew.cell? ⟨b,off+lt.length*7+4,none⟩=some (qV (k.T lt.length).c2.a (k.T lt.length).c2.n (k.T lt.length).c2.k):=CC.c4;have q5:wr.drew.cell? ⟨b,off+lt.length*7+5,none⟩=some (qV (k.T lt.length).own.a (k.T lt.length).own.n (k.T lt.length).own.k):=CC.c5;have q6:wr.drew.cell? ⟨b,off+lt.length*7+6,none⟩=some (iT qH (k.T lt.length).made):=CC.c6;have hbw:b<wr.heap.size:=qv hbl S1.out.be.size;obtain⟨a0,a1⟩:=S1.out.a.two;obtain⟨x0,x1⟩:=SD.out.a.two;obtain⟨y0,y1⟩:=SD.out.o.two;have CP:Hid (Calls prog 41 #[.agg #[iT qH (k.T lt.length).id,iT qH (k.T lt.length).b1,qV (k.T lt.length).c1.a (k.T lt.length).c1.n (k.T lt.length).c1.k,iT qH (k.T lt.length).b2,qV (k.T lt.length).c2.a (k.T lt.length).c2.n (k.T lt.length).c2.k,qV (k.T lt.length).own.a (k.T lt.length).own.n (k.T lt.length).own.k,iT qH (k.T lt.length).made]] wr.drew fun e w'=>∃v,e= .returned v/\(∃u:Ae,v= .agg u/\(k.T lt.length).same u/\u.new wr.drew.heap.size w'/\(u.own.n<=u.own.k/\u.own.k<=maxLen)/\qN wr.drew.heap.size wr.drew w')):=qC ((Ml (k.T lt.length) wr.drew ((hc lt.length hlt).2.below SD.out.be) (SMALL.out.1.2 lt.length hlt)).mono fun _ _ ⟨u,e1,h1,h2,h3,h4⟩=>⟨_,e1,u,rfl,h1,h2,h3,h4⟩);have EG:Hid (∀args w,(callFunc 41 args).run prog w= .ok (.enter 41 args) w):=qC (enters_of func41 kR rfl);have lm:lt.length<=1048576:=(by have:=SMALL.out.1.1;omega);rw[ea]at a0 x0;clear hc CC ea bd;have sz0:=S1.out.be.size;go_wp2_with fail
   go_region_law(first
    |(refine EJ qK 41 _ _ qK EG _ qK _ CP ?_;rintro v w5 ⟨u,rfl,su,nu,cu,b5⟩;have CU:=qC cu;have S5:=qC (SD.out.below b5);have S5a:=qC ((SD.out.below b5).below (Bg w5 (qG u 53)));have N5:=qC ((nu.low SD.out.be.size).keeps (Dk.of_below (Bg w5 (qG u 53))).l);have SU:=qC su;have ONE:Hid (Bl (w5.alloc (qG u 53)) (some ⟨w5,0,none⟩) 1 (Cn [u])):=qC (Du.one w5 u);have s5:w.heap.size<=(w5.alloc (qG u 53)).heap.size:=S5a.out.be.size;obtain⟨m0,m1⟩:=S5.out.o.two;obtain⟨n0,n1⟩:=S5a.out.o.two;clear su nu b5 cu)
    |(refine Jj qK _ _ qK w (qV ta lt.length ca) lt qK S5a.out.st.t _ _ u qK ONE lm s5 ?_;intro a7 c7 w7 o7 g7;have AD:=S5a.out.addT o7 g7 N5 SU CU.out;have S7:=qC AD.2;obtain⟨z0,z1⟩:=AD.1.two;have zf:=AD.1.jC;clear AD o7 g7))
   all_goals(
    clear m0 m1 n0 n1 x0 x1 y0 y1 q0 q1 q2 q3 q4 q5 q6 a0 a1;go_wp2;go_roundw;case rel=>exact⟨lt++[u],a7,c7,by simp;omega,by first|go_num|(congr 1;simp),by rw[show(lt++[u]).length=lt.length+1 from by simp];exact S7.out⟩
    case measure=>simp[intOf];omega)
  ·have i1:¬(lt.length:Int)<(k.tn:Int):=qQ;have ET:Hid (lt.length=k.tn):=qC qQ;obtain⟨a0,a1⟩:=S1.out.a.two;have ST:=S1;clear S1;go_wp2;clear a0 a1 i1 hlt hl;go_loopw [5] (fun i wr=>∃(lo:List Ab) (oa:Option Addr) (co:Nat),lo.length<=k.on/\i= iT qH lo.length/\KU w k wr (qV ta lt.length ca) (qV oa lo.length co) lt lo) (fun i _=>k.on-(intOf i).toNat)
   case atStart=>exact⟨[],none,0,qy _,rfl,ST⟩
   case round=>
    clear ST;obtain⟨lo,oa,co,hl,rfl,st⟩:=hrel;have S1:=qC st;clear st;by_cases hlt:lo.length<k.on
    ·have i1:(lo.length:Int)<(k.on:Int):=qQ;have i0:(0:Int)<=(lo.length:Int):=qQ;obtain⟨b,off,ea,hbl,hc⟩:=HO.out qQ;have bd:qN wr wr wr.drew:=(Below.refl _ wr).drew;have SD:=qC (S1.out.below bd);have CC:Di wr.drew b (off+lo.length*10) (k.O lo.length):=(hc lo.length hlt).1.below hbl ((Below.refl _ w).trans (SD.out.be.mono nr));have q0:wr.drew.cell? ⟨b,off+lo.length*10,none⟩=some (iT qH (k.O lo.length).id):=CC.c0;have q1:wr.drew.cell? ⟨b,off+lo.length*10+1,none⟩=some (iT qH (k.O lo.length).kind):=CC.c1;have q2:wr.drew.cell? ⟨b,off+lo.length*10+2,none⟩=some (iT qH (k.O lo.length).up):=CC.c2;have q3:wr.drew.cell? ⟨b,off+lo.length*10+3,none⟩=some (iT qH (k.O lo.length).b1):=CC.c3;have q4:wr.drew.cell? ⟨b,off+lo.length*10+4,none⟩=some (qV (k.O lo.length).c1.a (k.O lo.length).c1.n (k.O lo.length).c1.k):=CC.c4;have q5:wr.drew.cell? ⟨b,off+lo.length*10+5,none⟩=some (.string (k.O lo.length).data):=CC.c5;have q6:wr.drew.cell? ⟨b,off+lo.length*10+6,none⟩=some (qV (k.O lo.length).jA.a (k.O lo.length).jA.n (k.O lo.length).jA.k):=CC.c6;have q7:wr.drew.cell? ⟨b,off+lo.length*10+7,none⟩=some (qV (k.O lo.length).own.a (k.O lo.length).own.n (k.O lo.length).own.k):=CC.c7;have q8:wr.drew.cell? ⟨b,off+lo.length*10+8,none⟩=some (iT qH (k.O lo.length).b2):=CC.c8;have q9:wr.drew.cell? ⟨b,off+lo.length*10+9,none⟩=some (qV (k.O lo.length).c2.a (k.O lo.length).c2.n (k.O lo.length).c2.k):=CC.c9;have hbw:b<wr.heap.size:=qv hbl S1.out.be.size;obtain⟨a0,a1⟩:=S1.out.a.two;obtain⟨x0,x1⟩:=SD.out.a.two;obtain⟨y0,y1⟩:=SD.out.o.two;have CP:Hid (Calls prog 42 #[.agg #[iT qH (k.O lo.length).id,iT qH (k.O lo.length).kind,iT qH (k.O lo.length).up,iT qH (k.O lo.length).b1,qV (k.O lo.length).c1.a (k.O lo.length).c1.n (k.O lo.length).c1.k,.string (k.O lo.length).data,qV (k.O lo.length).jA.a (k.O lo.length).jA.n (k.O lo.length).jA.k,qV (k.O lo.length).own.a (k.O lo.length).own.n (k.O lo.length).own.k,iT qH (k.O lo.length).b2,qV (k.O lo.length).c2.a (k.O lo.length).c2.n (k.O lo.length).c2.k]] wr.drew fun e w'=>∃v,e= .returned v/\(∃u:Ab,v= .agg u/\(k.O lo.length).same u/\u.new wr.drew.heap.size w'/\(u.jA.n<=u.jA.k/\u.jA.k<=maxLen)/\qN wr.drew.heap.size wr.drew w')):=qC ((My (k.O lo.length) wr.drew ((hc lo.length hlt).2.below SD.out.be) (SMALL.out.2.2 lo.length hlt)).mono fun _ _ ⟨u,e1,h1,h2,h3,h4⟩=>⟨_,e1,u,rfl,h1,h2,h3,h4⟩);have EG:Hid (∀args w,(callFunc 42 args).run prog w= .ok (.enter 42 args) w):=qC (enters_of func42 kR rfl);have lm:lo.length<=1048576:=(by have:=SMALL.out.2.1;omega);rw[ea]at a1 x1;clear hc CC ea bd;have sz0:=S1.out.be.size;go_wp2_with fail
     go_region_law(first
      |(refine EJ qK 42 _ _ qK EG _ qK _ CP ?_;rintro v w5 ⟨u,rfl,su,nu,cu,b5⟩;have CU:=qC cu;have S5:=qC (SD.out.below b5);have S5a:=qC ((SD.out.below b5).below (Bg w5 (qG u 59)));have N5:=qC ((nu.low SD.out.be.size).keeps (Dk.of_below (Bg w5 (qG u 59))).l);have SU:=qC su;have ONE:Hid (Bl (w5.alloc (qG u 59)) (some ⟨w5,0,none⟩) 1 (Ax [u])):=qC (AW.one w5 u);have s5:w.heap.size<=(w5.alloc (qG u 59)).heap.size:=S5a.out.be.size;obtain⟨m0,m1⟩:=S5.out.o.two;obtain⟨n0,n1⟩:=S5a.out.o.two;clear su nu b5 cu)
      |(refine GH qK _ _ qK w (qV oa lo.length co) lo qK S5a.out.st.o _ _ u qK ONE lm s5 ?_;intro a7 c7 w7 o7 g7;have AD:=S5a.out.addO o7 g7 N5 SU CU.out;have S7:=qC AD.2;obtain⟨z0,z1⟩:=AD.1.two;have zf:=AD.1.jC;clear AD o7 g7))
     all_goals(
      clear m0 m1 n0 n1 x0 x1 y0 y1 q0 q1 q2 q3 q4 q5 q6 q7 q8 q9 a0 a1;go_wp2;go_roundw;case rel=>exact⟨lo++[u],a7,c7,by simp;omega,by first|go_num|(congr 1;simp),by rw[show(lo++[u]).length=lo.length+1 from by simp];exact S7.out⟩
      case measure=>simp[intOf];omega)
    ·have el:lo.length=k.on:=qQ;have i1:¬(lo.length:Int)<(k.on:Int):=qQ;have EL:=qC el;obtain⟨a0,a1⟩:=S1.out.a.two;obtain⟨y0,y1⟩:=S1.out.o.two;obtain⟨r0,r1⟩:=S1.out.r.two;have rf:=S1.out.r.jC;clear el;go_wp2;refine bodyPost_ret (Ih _ _ (w.heap.size+1) 2 _ _ Tryz.results15 ((S1.out.r.jB (i:=0) _).jB (i:=1) _) rfl) rfl ⟨lt,lo,ta,oa,ca,co,rfl,(S1.out.st.set S1.out.r (.inl rfl) _).set (S1.out.r.jB (i:=0) _) (.inl rfl) _,⟨ET,fun j hj=>S1.out.st1 j (by rw[ET.out];exact hj),EL,fun j hj=>S1.out.so1 j (by rw[EL.out];exact hj)⟩,?_⟩;exact(S1.out.be.setCell qJ _).setCell qJ _
open _root_.Nat renaming le_trans→qj
open _root_.List renaming mem_append→jq,mem_flatten→xZ,mem_map→jy,mem_singleton→kW,append_assoc→kM
open _root_.Option renaming some→jV
variable {B M P:Nat}{w w':World}{c:As}{vt vo:Value}{lt:List Ae}{lo:List Ab}
def As.bs(c:As):List Nat:=if 0<c.n then(match c.a with|some p=>[p.block]|none=>[])else[]
def AJ.bs(c:AJ):List Nat:=if 0<c.n then(match c.a with|some p=>[p.block]|none=>[])else[]
def AE.bs(c:AE):List Nat:=if 0<c.n then(match c.a with|some p=>[p.block]|none=>[])else[]
def As.new.bs(h:c.new B w):c.bs.Nodup/\∀b∈c.bs,B<=b/\b<w.heap.size:=by
 unfold As.bs;split
 ·rename_i h0;obtain⟨b,m,F,e,h1,_,h3⟩:=h.2 h0;rw[e];exact⟨by simp,fun x hx=>by rw[kW.1 hx];exact⟨h1,h3.lt⟩⟩
 ·exact⟨by simp,fun x hx=>by cases hx⟩
def AJ.new.bs{c:AJ}(h:c.new B w):c.bs.Nodup/\∀b∈c.bs,B<=b/\b<w.heap.size:=by
 unfold AJ.bs;split
 ·rename_i h0;obtain⟨b,m,F,e,h1,_,h3⟩:=h.2 h0;rw[e];exact⟨by simp,fun x hx=>by rw[kW.1 hx];exact⟨h1,h3.lt⟩⟩
 ·exact⟨by simp,fun x hx=>by cases hx⟩
def AE.new.bs{c:AE}(h:c.new B w):c.bs.Nodup/\∀b∈c.bs,B<=b/\b<w.heap.size:=by
 unfold AE.bs;split
 ·rename_i h0;obtain⟨b,m,F,e,h1,_,h3⟩:=h.2 h0;rw[e];exact⟨by simp,fun x hx=>by rw[kW.1 hx];exact⟨h1,h3.lt⟩⟩
 ·exact⟨by simp,fun x hx=>by cases hx⟩
def Dt{l1 l2:List Nat}(h1:l1.Nodup)(h2:l2.Nodup)(a:∀x∈l1,x<M)(b:∀x∈l2,M<=x):(l1++l2).Nodup:=by
 rw[List.nodup_append];exact⟨h1,h2,fun x hx y hy e=>by have:=a x hx;have:=b y hy;omega⟩
def Ae.cb(t:Ae):List Nat:=t.c1.bs++t.c2.bs
def Ab.cb(t:Ab):List Nat:=t.c1.bs++t.c2.bs
def As.new.past(h:c.new B w)(hg:w.grownBy w' (some P))(hP:P<B):c.new B w':=h.of hg.size (fun b e h0=>by
 obtain⟨b',m,F,e',h1,_,hr⟩:=h.2 h0;rw[e]at e';cases e';exact hg.block b hr.lt (fun e=>by have:=jV.inj e;omega))
def AJ.new.past{c:AJ}(h:c.new B w)(hg:w.grownBy w' (some P))(hP:P<B):c.new B w':=h.of hg.size (fun b e h0=>by
 obtain⟨b',m,F,e',h1,_,hr⟩:=h.2 h0;rw[e]at e';cases e';exact hg.block b hr.lt (fun e=>by have:=jV.inj e;omega))
def AE.new.past{c:AE}(h:c.new B w)(hg:w.grownBy w' (some P))(hP:P<B):c.new B w':=h.of hg.size (fun b e h0=>by
 obtain⟨b',m,F,e',h1,_,hr⟩:=h.2 h0;rw[e]at e';cases e';exact hg.block b hr.lt (fun e=>by have:=jV.inj e;omega))
def Bz.past(h:Bz w B vt vo lt lo)(hg:w.grownBy w' (some P))(hP:P<B):Bz w' B vt vo lt lo:=by
 have ne:∀{ty sz n:Nat}{v:Value}{cs:List Value},w.ownsRow B ty sz v n cs->v.ownBlock=none∨v.ownBlock≠some P:=fun{ty sz n v cs} ho=> .inr (fun e=>by have:=(qq.lt ho P e).1;omega);exact⟨qq.kept h.t hg (ne h.t),qq.kept h.o hg (ne h.o),fun x hx=>⟨(h.tn x hx).1.past hg hP,(h.tn x hx).2.1.past hg hP,(h.tn x hx).2.2.past hg hP⟩,fun x hx=>⟨(h.on x hx).1.past hg hP,(h.on x hx).2.1.past hg hP,(h.on x hx).2.2.1.past hg hP,(h.on x hx).2.2.2.past hg hP⟩,h.tc,h.oc⟩
structure Apart(lt:List Ae)(lo:List Ab):Prop where
 c:((lt.map Ae.cb).flatten++(lo.map Ab.cb).flatten).Nodup
 i:((lt.map fun x=>x.own.bs).flatten++(lo.map fun x=>x.own.bs).flatten).Nodup
 s:((lo.map fun x=>x.jA.bs).flatten).Nodup
def Apart.nil:Apart [] []:=⟨by simp,by simp,by simp⟩
def Bz.low3(h:Bz w B vt vo lt lo):(∀b∈(lt.map Ae.cb).flatten++(lo.map Ab.cb).flatten,b<w.heap.size)/\(∀b∈(lt.map fun x=>x.own.bs).flatten++(lo.map fun x=>x.own.bs).flatten,b<w.heap.size)/\(∀b∈(lo.map fun x=>x.jA.bs).flatten,b<w.heap.size):=by
 refine⟨fun b hb=>?_,fun b hb=>?_,fun b hb=>?_⟩
 ·rcases jq.1 hb with hb|hb
  ·obtain⟨l,hl,hb⟩:=xZ.1 hb;obtain⟨x,hx,rfl⟩:=jy.1 hl;rcases jq.1 hb with hb|hb
   ·exact((h.tn x hx).1.bs.2 b hb).2
   ·exact((h.tn x hx).2.1.bs.2 b hb).2
  ·obtain⟨l,hl,hb⟩:=xZ.1 hb;obtain⟨x,hx,rfl⟩:=jy.1 hl;rcases jq.1 hb with hb|hb
   ·exact((h.on x hx).1.bs.2 b hb).2
   ·exact((h.on x hx).2.2.2.bs.2 b hb).2
 ·rcases jq.1 hb with hb|hb
  ·obtain⟨l,hl,hb⟩:=xZ.1 hb;obtain⟨x,hx,rfl⟩:=jy.1 hl;exact((h.tn x hx).2.2.bs.2 b hb).2
  ·obtain⟨l,hl,hb⟩:=xZ.1 hb;obtain⟨x,hx,rfl⟩:=jy.1 hl;exact((h.on x hx).2.2.1.bs.2 b hb).2
 ·obtain⟨l,hl,hb⟩:=xZ.1 hb;obtain⟨x,hx,rfl⟩:=jy.1 hl;exact((h.on x hx).2.1.bs.2 b hb).2
def Apart.addT(h:Apart lt [])(hk:Bz w B vt vo lt []){x:Ae}(hx:x.new M w')(hM:w.heap.size<=M)(hn:x.cb.Nodup):Apart (lt++[x]) []:=by
 obtain⟨k1,k2,_⟩:=hk.low3;refine⟨?_,?_,by simp⟩
 ·have:=Dt (M:=w.heap.size) (l2:=x.cb) (by simpa using h.c) hn (by simpa using k1) (fun b hb=>by
   rcases jq.1 hb with hb|hb
   ·exact qj hM (hx.1.bs.2 b hb).1
   ·exact qj hM (hx.2.1.bs.2 b hb).1)
  simpa using this
 ·have:=Dt (M:=w.heap.size) (l2:=x.own.bs) (by simpa using h.i) hx.2.2.bs.1 (by simpa using k2) (fun b hb=>qj hM (hx.2.2.bs.2 b hb).1);simpa using this
def Apart.addO(h:Apart lt lo)(hk:Bz w B vt vo lt lo){x:Ab}(hx:x.new M w')(hM:w.heap.size<=M)(hn:x.cb.Nodup):Apart lt (lo++[x]):=by
 obtain⟨k1,k2,k3⟩:=hk.low3;refine⟨?_,?_,?_⟩
 ·have:=Dt (M:=w.heap.size) (l2:=x.cb) h.c hn k1 (fun b hb=>by
   rcases jq.1 hb with hb|hb
   ·exact qj hM (hx.1.bs.2 b hb).1
   ·exact qj hM (hx.2.2.2.bs.2 b hb).1)
  simpa[kM]using this
 ·have:=Dt (M:=w.heap.size) (l2:=x.own.bs) h.i hx.2.2.1.bs.1 k2 (fun b hb=>qj hM (hx.2.2.1.bs.2 b hb).1);simpa[kM]using this
 ·have:=Dt (M:=w.heap.size) (l2:=x.jA.bs) h.s hx.2.1.bs.1 k3 (fun b hb=>qj hM (hx.2.1.bs.2 b hb).1);simpa using this
open Go.Ending renaming returned→rT
open _root_.List renaming set→qF,range→qx,nil_append→zN
open _root_.Or renaming inl→kD
open _root_.Nat renaming zero_add→jk,lt_irrefl→kV
open Go.World renaming ownsRow_nil→zQ
open _root_.ByteArray renaming mk→qD
open Go renaming Calls→qP
def Kq(c:AJ)(w:World)(hc:c.at w)(hn:c.n<=1048576):
 qP prog 88 #[c.val] w fun e w'=>∃d:AJ,e= rT d.val/\(c.same d/\(d.n<=d.k/\d.k<=maxLen))/\d.new w w'/\qN w w w':=by
 obtain⟨a,n,cap,f⟩:=c;obtain⟨hm,hc⟩:=hc;unfold AJ.val;simp only at hm hc hn ⊢;have L0:=hc.intL;have el:((qx n).map f).length=n:=by simp
 have L:Hid (Bl w a n (((qx n).map f).map (Value.int .i64))):=qC (by unfold Ec at L0;rw[el]at L0;exact L0);clear hc L0;go_enter func88,ntmps88
 go_wp2_with(refine Cl underlying51 Tryz.info2 rfl qQ _ rfl _ _ rfl w (qV none 0 0) 0 [] rfl (zQ _ _ _ _) a n cap (((qx n).map f).map (Value.int .i64)) rfl sI L (fun u hu=>by obtain⟨y,_,rfl⟩:=jy.1 hu;rfl) qQ qQ nr ?_;intro a3 c3 w3 o3 g3;rw[jk,zN]at o3;rw[jk])
 go_ret;have ho:AI w3 w (qV a3 ((qx n).map f).length c3) ((qx n).map f):=by unfold AI;rw[el];exact o3
 have hi:Bp w3 a3 n f:=fun h0=>by
  obtain⟨b,off,e,hlt,hcc⟩:=(AI.lies ho).ints (by rw[el];exact h0);refine⟨b,off,e,hlt,fun i hi=>?_⟩;have:=hcc i (by rw[el];exact hi);rw[this];simp[AZ,hi]
 exact⟨⟨a3,n,c3,f⟩,rfl,⟨⟨rfl,rfl⟩,Dj o3⟩,⟨⟨hm,hi⟩,fun h0=>by have:=DT o3 h0;simpa using this⟩,below_grown g3 nr (fun j hj=>by cases hj)⟩
def AE.tight(d:AE):Prop:=d.n=0->d.a=none/\d.k=0
def Qs(c:AE)(w:World)(hc:c.at w)(hn:c.n<=1048576):
 qP prog 89 #[c.val] w fun e w'=>∃d:AE,e= rT d.val/\((c.same d/\d.tight)/\(d.n<=d.k/\d.k<=maxLen))/\d.new w w'/\qN w w w':=by
 obtain⟨a,n,cap,f⟩:=c;obtain⟨hm,hc,hz⟩:=hc;unfold AE.val;simp only at hm hc hn hz ⊢;have L:=qC (Mm hc);have HZ:=qC hz;clear hc hz;by_cases h0:n=0
 ·subst h0;cases a;all_goals(
   go_enter func89,ntmps89
   go_wp2;go_ret;exact⟨⟨none,0,0,f⟩,rfl,⟨⟨⟨rfl,rfl⟩,fun _=>⟨rfl,rfl⟩⟩,⟨Nat.le_refl _,qy _⟩⟩,⟨⟨qy _,fun h=>absurd h (kV 0),HZ⟩,fun h=>absurd h (kV 0)⟩,Below.refl _ _⟩)
 go_enter func89,ntmps89
 go_wp2_with(refine Cl underlying57 Tryz.info9 rfl qQ _ rfl _ _ rfl w (qV none 0 0) 0 [] rfl (zQ _ _ _ _) a n cap ((qx n).map (fun i=>Value.string (f i))) rfl sI L (fun u hu=>by obtain⟨y,_,rfl⟩:=jy.1 hu;rfl) qQ qQ nr ?_;intro a3 c3 w3 o3 g3;rw[jk,zN]at o3;rw[jk])
 go_ret;have hi:JL w3 a3 n f:=fun h0=>by
  obtain⟨b,off,e,hlt,hcc⟩:=Bl.own o3 h0;exact⟨b,off,e,hlt,fun i hi=>hcc i _ (by simp[hi])⟩
 exact⟨⟨a3,n,c3,f⟩,rfl,⟨⟨⟨rfl,rfl⟩,fun e=>absurd e (by simp only;omega)⟩,Dj o3⟩,⟨⟨hm,hi,HZ⟩,fun h0=>Ng o3 h0⟩,below_grown g3 nr (fun j hj=>by cases hj)⟩
def MK(t:Ae)(w:World)(ht:t.at w)(hs:t.small):
 qP prog 39 #[t.val] w fun e w'=>∃u:Ae,e= rT u.val/\t.same u/\u.new w w'/\(u.own.n<=u.own.k/\u.own.k<=maxLen)/\u.cb.Nodup/\qN w w w':=by
 have EG:∀args w,(callFunc 87 args).run prog w= .ok (.enter 87 args) w:=enters_of func87 kR rfl;have EH:∀args w,(callFunc 88 args).run prog w= .ok (.enter 88 args) w:=enters_of func88 kR rfl;have n4:No (.cells #[iT qH 0,iT qH 0,qV none 0 0,iT qH 0,qV none 0 0,qV none 0 0,iT qH 0] 53):=⟨⟩;have b0:qN w w ((w.alloc t.blk).alloc n4):=(Bg w _).alloc sI _;have A0:=(Ag.new w t.blk).alloc n4;have R0:Ag ((w.alloc t.blk).alloc n4) (w.heap.size+1) n4:=by
  have:=Ag.new (w.alloc t.blk) n4;simpa using this
 have T0:=qC (ht.below b0);unfold Ae.blk at b0 A0 R0 T0;unfold Ae.val;obtain⟨x0,x1,x2,x3,x4,x5,x6⟩:=A0.seven;obtain⟨m1,m2,m3⟩:=hs;clear ht;go_enter func39,ntmps39
 go_wp2;have n5:No (.cells #[t.id,t.b1,t.c1.val,t.b2,t.c2.val,t.own.val,t.made] 53):=⟨⟩;generalize hV:((w.alloc n5).alloc n4)=V at *;have B0:=qC b0;have A0':=qC A0;have R0':=qC R0;have PA:Hid (∀W,qN V V W->qP prog 87 #[.agg #[t.b1,t.c1.val]] W fun e w'=>∃v,e= rT v/\∃d:As,v= .agg #[t.b1,d.val]/\t.c1.same d/\d.new W w'/\qN W W w'):=qC (fun W hW=>(Bm t.b1 t.c1 W (T0.out.below hW).1 m1).mono fun e w' ⟨d,h1,h2,h3,h4⟩=>⟨_,h1,d,rfl,h2,h3,h4⟩);have PB:Hid (∀W,qN V V W->qP prog 87 #[.agg #[t.b2,t.c2.val]] W fun e w'=>∃v,e= rT v/\∃d:As,v= .agg #[t.b2,d.val]/\t.c2.same d/\d.new W w'/\qN W W w'):=qC (fun W hW=>(Bm t.b2 t.c2 W (T0.out.below hW).2.1 m2).mono fun e w' ⟨d,h1,h2,h3,h4⟩=>⟨_,h1,d,rfl,h2,h3,h4⟩);have PC:Hid (∀W,qN V V W->qP prog 88 #[t.own.val] W fun e w'=>∃v,e= rT v/\∃d:AJ,v=d.val/\(t.own.same d/\(d.n<=d.k/\d.k<=maxLen))/\d.new W w'/\qN W W w'):=qC (fun W hW=>(Kq t.own W (T0.out.below hW).2.2 m3).mono fun e w' ⟨d,h1,h2,h3,h4⟩=>⟨_,h1,d,rfl,h2,h3,h4⟩);have V0:Hid (qN V V V.drew):=qC (Below.refl _ V).drew;have Ad:Hid (Ag V.drew w n5):=qC A0;clear hV b0 A0 R0;have mk1:True:=trivial;have mk2:True:=trivial;go_region_law(first
  |(clear mk1;refine EJ qK 87 _ _ qK EG _ qK _ (PA _ V0) ?_;rintro v w1 ⟨d1,rfl,s1,n1,h1⟩;have V1:=qC (Af V0 h1);obtain⟨e0,e1,e2,e3,e4,e5,e6⟩:=(Ad.out.below h1).seven)
  |(clear mk2;refine EJ qK 87 _ _ qK EG _ qK _ (PB _ V1) ?_;rintro v w2 ⟨d2,rfl,s2,n2,h2⟩;have V2:=qC (Af V1 h2);obtain⟨f0,f1,f2,f3,f4,f5,f6⟩:=((Ad.out.below h1).below h2).seven)
  |(refine EJ qK 88 _ _ qK EH _ qK _ (PC _ V2) ?_;rintro v w3 ⟨d3,rfl,s3,n3,h3⟩;have V3:=qC (Af V2 h3);unfold As.val AJ.val;obtain⟨g0,g1,g2,g3,g4,g5,g6⟩:=(((Ad.out.below h1).below h2).below h3).seven;have gf:=(((Ad.out.below h1).below h2).below h3).jC))
 all_goals(
  have A3:=qC (((Ad.out.below h1).below h2).below h3);have R3:Hid (Ag w3 (w.heap.size+1) _):=qC (R0'.out.below V3);have ND:=qC (Dt n1.bs.1 n2.bs.1 (fun x hx=>(n1.bs.2 x hx).2) (fun x hx=>(n2.bs.2 x hx).1));have N1:=qC ((n1.below h2).below h3);have N2:=qC (n2.below h3);have N3:=qC n3;have S1:=qC s1;have S2:=qC s2;have S3:=qC s3;have B3:=qC (Af B0 V3);have L0:=qC (show w.heap.size<=V.drew.heap.size from B0.out.size);have L1:=qC (qj L0 h1.size);have L2:=qC (qj L1 h2.size);obtain⟨r0,r1,r2,r3,r4,r5,r6⟩:=R3.out.seven;have rf:=R3.out.jC;have ne1:¬w.heap.size+1=w.heap.size:=by omega
  have ne2:¬w.heap.size=w.heap.size+1:=by omega
  clear h1 h2 h3 n1 n2 n3 s1 s2 s3 e0 e1 e2 e3 e4 e5 e6 f0 f1 f2 f3 f4 f5 f6 x0 x1 x2 x3 x4 x5 x6 PA PB PC EG EH V0 V1 V2 V3 Ad;simp only[As.val,AJ.val]at g2 g4 g5;go_wp2;refine bodyPost_ret (Yf _ _ (w.heap.size+1) (iT qH t.id) (iT qH t.b1) (qV d1.a d1.n d1.k) (iT qH t.b2) (qV d2.a d2.n d2.k) (qV d3.a d3.n d3.k) (iT qH t.made) (Ag.all7 (((((R3.out.other qQ _).other qQ _).other qQ _).other qQ _).other qQ _) _ _ _ _ _ _ _) rfl) rfl ⟨⟨t.id,t.b1,d1,t.b2,d2,d3,t.made⟩,rfl,⟨rfl,rfl,S1,rfl,S2,S3.out.1,rfl⟩,⟨?_,?_,?_⟩,S3.out.2,ND,?_⟩
  ·refine(N1.out.low L0).of sI (fun g hg hn'=>?_);have q1:=N1.out.ne A3 qX g hg hn';have q2:=N1.out.ne R3 qX g hg hn';iterate 12 rw[blk_setCell_other _ _ _ _ qJ]
  ·refine(N2.out.low L1).of sI (fun g hg hn'=>?_);have q1:=N2.out.ne A3 qX g hg hn';have q2:=N2.out.ne R3 qX g hg hn';iterate 12 rw[blk_setCell_other _ _ _ _ qJ]
  ·refine(N3.out.low L2).of sI (fun g hg hn'=>?_);have q1:=N3.out.ne A3 qX g hg hn';have q2:=N3.out.ne R3 qX g hg hn';iterate 12 rw[blk_setCell_other _ _ _ _ qJ]
  ·iterate 12 refine Below.setCell ?_ qJ _
   exact B3.out)
def MO(t:Ab)(w:World)(ht:t.at w)(hs:t.small):
 qP prog 40 #[t.val] w fun e w'=>∃u:Ab,e= rT u.val/\t.same u/\u.new w w'/\(u.jA.n<=u.jA.k/\u.jA.k<=maxLen)/\(u.own.n<=u.own.k/\u.own.k<=maxLen)/\(u.cb.Nodup/\u.jA.tight)/\qN w w w':=by
 have EG:∀args w,(callFunc 87 args).run prog w= .ok (.enter 87 args) w:=enters_of func87 kR rfl;have EH:∀args w,(callFunc 88 args).run prog w= .ok (.enter 88 args) w:=enters_of func88 kR rfl;have EI:∀args w,(callFunc 89 args).run prog w= .ok (.enter 89 args) w:=enters_of func89 kR rfl;have b0:qN w w ((w.alloc t.blk).alloc FJ):=(Bg w _).alloc sI _;have A0:=(Ag.new w t.blk).alloc FJ;have R0:Ag ((w.alloc t.blk).alloc FJ) (w.heap.size+1) FJ:=by
  have:=Ag.new (w.alloc t.blk) FJ;simpa using this
 have T0:=qC (ht.below b0);unfold Ab.blk FJ at b0 A0 R0 T0;unfold Ab.val;obtain⟨x0,x1,x2,x3,x4,x5,x6,x7,x8,x9⟩:=A0.jE;obtain⟨m1,m2,m3,m4,m5⟩:=hs;clear ht;go_enter func40,ntmps40
 go_wp2;have n5:No (.cells #[t.id,t.kind,t.up,t.b1,t.c1.val,.string t.data,t.jA.val,t.own.val,t.b2,t.c2.val] 59):=⟨⟩;generalize hV:((w.alloc n5).alloc (.cells #[iT qH 0,iT qH 0,iT qH 0,iT qH 0,qV none 0 0,.string (qD #[]),qV none 0 0,qV none 0 0,iT qH 0,qV none 0 0] 59))=V at *;have B0:=qC b0;have A0':=qC A0;have R0':=qC R0;have PA:Hid (∀W,qN V V W->qP prog 87 #[.agg #[t.b1,t.c1.val]] W fun e w'=>∃v,e= rT v/\∃d:As,v= .agg #[t.b1,d.val]/\t.c1.same d/\d.new W w'/\qN W W w'):=qC (fun W hW=>(Bm t.b1 t.c1 W (T0.out.below hW).1 m1).mono fun e w' ⟨d,h1,h2,h3,h4⟩=>⟨_,h1,d,rfl,h2,h3,h4⟩);have PB:Hid (∀W,qN V V W->qP prog 87 #[.agg #[t.b2,t.c2.val]] W fun e w'=>∃v,e= rT v/\∃d:As,v= .agg #[t.b2,d.val]/\t.c2.same d/\d.new W w'/\qN W W w'):=qC (fun W hW=>(Bm t.b2 t.c2 W (T0.out.below hW).2.2.2.1 m5).mono fun e w' ⟨d,h1,h2,h3,h4⟩=>⟨_,h1,d,rfl,h2,h3,h4⟩);have PC:Hid (∀W,qN V V W->qP prog 88 #[t.own.val] W fun e w'=>∃v,e= rT v/\∃d:AJ,v=d.val/\(t.own.same d/\(d.n<=d.k/\d.k<=maxLen))/\d.new W w'/\qN W W w'):=qC (fun W hW=>(Kq t.own W (T0.out.below hW).2.2.1 m4).mono fun e w' ⟨d,h1,h2,h3,h4⟩=>⟨_,h1,d,rfl,h2,h3,h4⟩);have PD:Hid (∀W,qN V V W->qP prog 89 #[t.jA.val] W fun e w'=>∃v,e= rT v/\∃d:AE,v=d.val/\((t.jA.same d/\d.tight)/\(d.n<=d.k/\d.k<=maxLen))/\d.new W w'/\qN W W w'):=qC (fun W hW=>(Qs t.jA W (T0.out.below hW).2.1 m3.1).mono fun e w' ⟨d,h1,h2,h3,h4⟩=>⟨_,h1,d,rfl,h2,h3,h4⟩);have V0:Hid (qN V V V.drew):=qC (Below.refl _ V).drew;have Ad:Hid (Ag V.drew w n5):=qC A0;clear hV b0 A0 R0;have HS0:Ag V.drew w n5:=Ad.out;refine Am 13 (fun W=>Ag W w n5) kR ?_;have HS1:(fun W=>Ag W w n5) V.drew:=HS0;clear HS0;have n6:Nv (.pointer (some ⟨w,3,none⟩)):=⟨⟩;refine CL (i:=0) (d:=3) n6 rfl rfl kR kR kR kR kR kR (fun _ _ _ h=>h) (kD ⟨by rfl,fun W hSw=>by go_simp⟩) HS1 ?_;simp only[ap,qF];refine CL (i:=1) (d:=4) (.agg #[t.b1,t.c1.val]) rfl rfl kR kR kR kR kR kR (fun _ _ _ h=>h) (kD ⟨by rfl,fun W hSw=>by obtain⟨q0,q1,q2,q3,q4,q5,q6,q7,q8,q9⟩:=Ag.jE hSw;go_simp⟩) HS1 ?_;simp only[ap,qF];refine CL (i:=3) (d:=6) (.pointer (some ⟨w,8,none⟩)) rfl rfl kR kR kR kR kR kR (fun _ _ _ h=>h) (kD ⟨by rfl,fun W hSw=>by go_simp⟩) HS1 ?_;simp only[ap,qF];refine CL (i:=4) (d:=7) (.agg #[t.b2,t.c2.val]) rfl rfl kR kR kR kR kR kR (fun _ _ _ h=>h) (kD ⟨by rfl,fun W hSw=>by obtain⟨q0,q1,q2,q3,q4,q5,q6,q7,q8,q9⟩:=Ag.jE hSw;go_simp⟩) HS1 ?_;simp only[ap,qF];refine CL (i:=6) (d:=9) (.pointer (some ⟨w,7,none⟩)) rfl rfl kR kR kR kR kR kR (fun _ _ _ h=>h) (kD ⟨by rfl,fun W hSw=>by go_simp⟩) HS1 ?_;simp only[ap,qF];refine CL (i:=7) (d:=10) (t.own.val) rfl rfl kR kR kR kR kR kR (fun _ _ _ h=>h) (kD ⟨by rfl,fun W hSw=>by obtain⟨q0,q1,q2,q3,q4,q5,q6,q7,q8,q9⟩:=Ag.jE hSw;go_simp⟩) HS1 ?_;simp only[ap,qF];refine CL (i:=9) (d:=12) (.pointer (some ⟨w,6,none⟩)) rfl rfl kR kR kR kR kR kR (fun _ _ _ h=>h) (kD ⟨by rfl,fun W hSw=>by go_simp⟩) HS1 ?_;simp only[ap,qF];refine CL (i:=10) (d:=13) (t.jA.val) rfl rfl kR kR kR kR kR kR (fun _ _ _ h=>h) (kD ⟨by rfl,fun W hSw=>by obtain⟨q0,q1,q2,q3,q4,q5,q6,q7,q8,q9⟩:=Ag.jE hSw;go_simp⟩) HS1 ?_;simp only[ap,qF];refine Ac (i:=2) kR rfl ?_;intro K hK;refine An qK 87 _ _ qK EG _ qK (some 5) qK _ (PA _ V0) ?_;rintro v w1 ⟨d1,rfl,s1,n1,h1⟩;refine hK _ _ (fun _=>Ag.below HS1 h1) ?_;have V1:=qC (Af V0 h1);have HS2:(fun W=>Ag W w n5) w1:=Ag.below HS1 h1;clear hK K HS1;try simp only[ap,qF]
 refine CL (i:=12) (d:=15) n6 rfl rfl kR kR kR kR kR kR (fun _ _ _ h=>h) (kD ⟨by rfl,fun W hSw=>by go_simp⟩) HS2 ?_;simp only[ap,qF];refine Ac (i:=5) kR rfl ?_;intro K hK;refine An qK 87 _ _ qK EG _ qK (some 8) qK _ (PB _ V1) ?_;rintro v w2 ⟨d2,rfl,s2,n2,h2⟩;refine hK _ _ (fun _=>Ag.below HS2 h2) ?_;have V2:=qC (Af V1 h2);have HS3:(fun W=>Ag W w n5) w2:=Ag.below HS2 h2;clear hK K HS2;try simp only[ap,qF]
 refine Ac (i:=8) kR rfl ?_;intro K hK;refine An qK 88 _ _ qK EH _ qK (some 11) qK _ (PC _ V2) ?_;rintro v w3 ⟨d3,rfl,s3,n3,h3⟩;refine hK _ _ (fun _=>Ag.below HS3 h3) ?_;have V3:=qC (Af V2 h3);have HS4:(fun W=>Ag W w n5) w3:=Ag.below HS3 h3;clear hK K HS3;try simp only[ap,qF]
 refine Ac (i:=11) kR rfl ?_;intro K hK;refine An qK 89 _ _ qK EI _ qK (some 14) qK _ (PD _ V3) ?_;rintro v w4 ⟨d4,rfl,s4,n4,h4⟩;refine hK _ _ (fun _=>Ag.below HS4 h4) ?_;have V4:=qC (Af V3 h4);have HS5:(fun W=>Ag W w n5) w4:=Ag.below HS4 h4;clear hK K HS4;try simp only[ap,qF]
 unfold As.val AJ.val AE.val;obtain⟨g0,g1,g2,g3,g4,g5,g6,g7,g8,g9⟩:=Ag.jE HS5;have gf:=Ag.jC HS5;simp only[As.val,AJ.val,AE.val]at g4 g6 g7 g9;refine Ac (i:=13) kR rfl ?_;intro K hK;go_simp;refine hK _ _ nA ?_;clear hK K;try simp only[ap,qF]
 refine Ac (i:=14) kR rfl ?_;intro K hK;go_simp;refine hK _ _ nA ?_;clear hK K;try simp only[ap,qF]
 refine Ac (i:=15) kR rfl ?_;intro K hK;go_simp;refine hK _ _ nA ?_;clear hK K;try simp only[ap,qF]
 refine Ac (i:=16) kR rfl ?_;intro K hK;go_simp;refine hK _ _ nA ?_;clear hK K;try simp only[ap,qF]
 refine Ac (i:=17) kR rfl ?_;intro K hK;go_simp;refine hK _ _ nA ?_;clear hK K;try simp only[ap,qF]
 refine Ac (i:=18) kR rfl ?_;intro K hK;go_simp;refine hK _ _ nA ?_;clear hK K;try simp only[ap,qF]
 refine Ac (i:=19) kR rfl ?_;intro K hK;go_simp;refine hK _ _ nA ?_;clear hK K;try simp only[ap,qF]
 refine Ai kR ?_ _;have A3:=qC HS5;have R3:Hid (Ag w4 (w.heap.size+1) _):=qC (R0'.out.below V4);have ND:=qC (Dt n1.bs.1 n2.bs.1 (fun x hx=>(n1.bs.2 x hx).2) (fun x hx=>(n2.bs.2 x hx).1));have N1:=qC (((n1.below h2).below h3).below h4);have N2:=qC ((n2.below h3).below h4);have N3:=qC (n3.below h4);have N4:=qC n4;have S1:=qC s1;have S2:=qC s2;have S3:=qC s3;have S4:=qC s4;have B3:=qC (Af B0 V4);have L0:=qC (show w.heap.size<=V.drew.heap.size from B0.out.size);have L1:=qC (qj L0 h1.size);have L2:=qC (qj L1 h2.size);have L3:=qC (qj L2 h3.size);obtain⟨r0,r1,r2,r3,r4,r5,r6,r7,r8,r9⟩:=R3.out.jE;have rf:=R3.out.jC;have ne1:¬w.heap.size+1=w.heap.size:=by omega
 have ne2:¬w.heap.size=w.heap.size+1:=by omega
 clear h1 h2 h3 h4 n1 n2 n3 n4 s1 s2 s3 s4 x0 x1 x2 x3 x4 x5 x6 x7 x8 x9 PA PB PC PD EG EH EI V0 V1 V2 V3 V4 Ad HS5;go_wp2;refine bodyPost_ret (YA _ _ (w.heap.size+1) (iT qH t.id) (iT qH t.kind) (iT qH t.up) (iT qH t.b1) (qV d1.a d1.n d1.k) (.string t.data) (qV d4.a d4.n d4.k) (qV d3.a d3.n d3.k) (iT qH t.b2) (qV d2.a d2.n d2.k) (Ag.all10 ((((((R3.out.other qQ _).other qQ _).other qQ _).other qQ _).other qQ _).other qQ _) _ _ _ _ _ _ _ _ _ _) rfl) rfl ⟨⟨t.id,t.kind,t.up,t.b1,d1,t.data,d4,d3,t.b2,d2⟩,rfl,⟨rfl,rfl,rfl,rfl,S1,rfl,S4.out.1.1,S3.out.1,rfl,S2⟩,⟨?_,?_,?_,?_⟩,S4.out.2,S3.out.2,⟨ND,S4.out.1.2⟩,?_⟩
 ·refine(N1.out.low L0).of sI (fun g hg hn'=>?_);have q1:=N1.out.ne A3 qX g hg hn';have q2:=N1.out.ne R3 qX g hg hn';iterate 16 rw[blk_setCell_other _ _ _ _ qJ]
 ·refine(N4.out.low L3).of sI (fun g hg hn'=>?_);have q1:=N4.out.ne A3 qX g hg hn';have q2:=N4.out.ne R3 qX g hg hn';iterate 16 rw[blk_setCell_other _ _ _ _ qJ]
 ·refine(N3.out.low L2).of sI (fun g hg hn'=>?_);have q1:=N3.out.ne A3 qX g hg hn';have q2:=N3.out.ne R3 qX g hg hn';iterate 16 rw[blk_setCell_other _ _ _ _ qJ]
 ·refine(N2.out.low L1).of sI (fun g hg hn'=>?_);have q1:=N2.out.ne A3 qX g hg hn';have q2:=N2.out.ne R3 qX g hg hn';iterate 16 rw[blk_setCell_other _ _ _ _ qJ]
 ·iterate 16 refine Below.setCell ?_ qJ _
  exact B3.out
open Go renaming World→qM
def Ls(lo:List Ab):Prop:=∀x∈lo,x.jA.tight
def Ls.add{lo:List Ab}{u:Ab}(h:Ls lo)(hu:u.jA.tight):Ls (lo++[u]):=fun x hx=>by
 rcases List.mem_append.1 hx with hx|hx
 ·exact h x hx
 ·rw[List.mem_singleton.1 hx];exact hu
def Gx(k:Av)(w:qM)(hk:k.at w)(hs:k.small):
 Calls prog 14 #[k.val] w fun e w'=>∃(lt:List Ae) (lo:List Ab) (ta oa:Option Addr) (ca co:Nat),e= .returned (.agg #[qV ta lt.length ca,qV oa lo.length co])/\Bz w' w (qV ta lt.length ca) (qV oa lo.length co) lt lo/\Apart lt lo/\Ls lo/\k.same (Df ta ca oa co lt lo)/\Below w w w':=by
 have HT:=qC hk.2.2.1;have HO:=qC hk.2.2.2;have SMALL:=qC hs;obtain⟨ta0,tn,tk,T,oa0,onn,okk,O⟩:=k;simp only[Av.small]at HT HO SMALL;have n4:No (qG #[qV none 0 0,qV none 0 0] 27):=⟨⟩;have n5:No (qG #[qV ta0 tn tk,qV oa0 onn okk] 27):=⟨⟩;have n8:Nw (((w.alloc n5).alloc n4).alloc n4):=⟨⟩;have b0:Below w w n8:=((Bg w _).alloc sI _).alloc sO _;have S0:Hid (KU w (Av.mk ta0 tn tk T oa0 onn okk O) n8 (qV none 0 0) (qV none 0 0) [] []):=qC ⟨⟨Du.nil _ _,AW.nil _ _,fun x hx=>absurd hx kH,fun x hx=>absurd hx kH,fun x hx=>absurd hx kH,fun x hx=>absurd hx kH⟩,fun i hi=>absurd hi (xV i),fun i hi=>absurd hi (xV i),((Ag.new w n5).alloc _).alloc _,(by have:=(Ag.new (w.alloc n5) n4).alloc n4;simpa using this),(by have:=Ag.new ((w.alloc n5).alloc n4) n4;simpa using this),b0⟩;clear hk hs b0;unfold Av.val;go_enter func14,ntmps14
 go_wp2;go_loopw [11] (fun i wr=>∃(lt:List Ae) (ta:Option Addr) (ca:Nat),lt.length<=tn/\i= iT qH lt.length/\KU w (Av.mk ta0 tn tk T oa0 onn okk O) wr (qV ta lt.length ca) (qV none 0 0) lt []/\Apart lt []) (fun i _=>tn-(intOf i).toNat)
 case atStart=>exact⟨[],none,0,qy _,rfl,S0,Apart.nil⟩
 case round=>
  clear S0;obtain⟨lt,ta,ca,hl,rfl,st,ap⟩:=hrel;have S1:=qC st;have AP1:=qC ap;clear st ap;by_cases hlt:lt.length<tn
  ·have i1:(lt.length:Int)<(tn:Int):=qQ;have i0:(0:Int)<=(lt.length:Int):=qQ;obtain⟨b,off,ea,hbl,hc⟩:=HT.out qQ;subst ea;have n3:Na #[iT qH (T lt.length).id,iT qH (T lt.length).b1,qV (T lt.length).c1.a (T lt.length).c1.n (T lt.length).c1.k,iT qH (T lt.length).b2,qV (T lt.length).c2.a (T lt.length).c2.n (T lt.length).c2.k,qV (T lt.length).own.a (T lt.length).own.n (T lt.length).own.k,iT qH (T lt.length).made]:=⟨⟩;have n6:Nw (wr.alloc (qG n3 53)):=⟨⟩;have bd:Below wr wr (n6:qM).drew:=(Bg wr (qG n3 53)).drew;have SD:=qC (S1.out.below bd);have CC:FA wr b (off+lt.length*7) (T lt.length):=(hc lt.length hlt).1.below hbl S1.out.be;have q0:wr.cell? ⟨b,off+lt.length*7,none⟩=some (iT qH (T lt.length).id):=CC.c0;have q1:wr.cell? ⟨b,off+lt.length*7+1,none⟩=some (iT qH (T lt.length).b1):=CC.c1;have q2:wr.cell? ⟨b,off+lt.length*7+2,none⟩=some (qV (T lt.length).c1.a (T lt.length).c1.n (T lt.length).c1.k):=CC.c2;have q3:wr.cell? ⟨b,off+lt.length*7+3,none⟩=some (iT qH (T lt.length).b2):=CC.c3;have q4:wr.cell? ⟨b,off+lt.length*7+4,none⟩=some (qV (T lt.length).c2.a (T lt.length).c2.n (T lt.length).c2.k):=CC.c4;have q5:wr.cell? ⟨b,off+lt.length*7+5,none⟩=some (qV (T lt.length).own.a (T lt.length).own.n (T lt.length).own.k):=CC.c5;have q6:wr.cell? ⟨b,off+lt.length*7+6,none⟩=some (iT qH (T lt.length).made):=CC.c6;have hbw:b<wr.heap.size:=qv hbl S1.out.be.size;obtain⟨a0,a1⟩:=S1.out.a.two;obtain⟨x0,x1⟩:=SD.out.a.two;obtain⟨y0,y1⟩:=SD.out.o.two;simp only at a0 a1 x0 x1;have CP:Hid (Calls prog 39 #[.agg n3] (n6:qM).drew fun e w'=>∃v,e= .returned v/\(∃u:Ae,v= .agg u/\(T lt.length).same u/\u.new (n6:qM).drew.heap.size w'/\(u.own.n<=u.own.k/\u.own.k<=maxLen)/\u.cb.Nodup/\Below (n6:qM).drew.heap.size (n6:qM).drew w')):=qC ((MK (T lt.length) (n6:qM).drew ((hc lt.length hlt).2.below SD.out.be) (SMALL.out.1.2 lt.length hlt)).mono fun _ _ ⟨u,e1,h1,h2,h3,h5,h4⟩=>⟨_,e1,u,rfl,h1,h2,h3,h5,h4⟩);have EG:Hid (∀args w,(callFunc 39 args).run prog w= .ok (.enter 39 args) w):=qC (enters_of func39 kR rfl);have BX:=qC (show Ag (n6:qM).drew wr (qG n3 53) from Ag.new wr (qG n3 53));obtain⟨p0,p1,p2,p3,p4,p5,p6⟩:=BX.out.seven;have lm:lt.length<=1048576:=(by have:=SMALL.out.1.1;omega);clear hc CC bd;have sz0:=S1.out.be.size;go_wp2_with fail
   go_region_law(first
    |(refine EJ qK 39 _ _ qK EG _ qK _ CP ?_;rintro v w5 ⟨u,rfl,su,nu,cu,du,b5⟩;have CU:=qC cu;have AU:=qC (AP1.out.addT SD.out.st nu nr du);have S5:=qC (SD.out.below b5);have S5a:=qC ((SD.out.below b5).below (Bg w5 (qG u 53)));have N5:=qC ((nu.low SD.out.be.size).keeps (Dk.of_below (Bg w5 (qG u 53))).l);have SU:=qC su;have ONE:Hid (Bl (w5.alloc (qG u 53)) (some ⟨w5,0,none⟩) 1 (Cn [u])):=qC (Du.one w5 u);have s5:w.heap.size<=(w5.alloc (qG u 53)).heap.size:=S5a.out.be.size;obtain⟨m0,m1⟩:=S5.out.o.two;obtain⟨n0,n1⟩:=S5a.out.o.two;clear su nu b5 cu du)
    |(refine Jj qK _ _ qK w (qV ta lt.length ca) lt qK S5a.out.st.t _ _ u qK ONE lm s5 ?_;intro a7 c7 w7 o7 g7;have AD:=S5a.out.addT o7 g7 N5 SU CU.out;have S7:=qC AD.2;obtain⟨z0,z1⟩:=AD.1.two;have zf:=AD.1.jC;clear AD o7 g7))
   all_goals(
    clear p0 p1 p2 p3 p4 p5 p6 m0 m1 n0 n1 x0 x1 y0 y1 q0 q1 q2 q3 q4 q5 q6 a0 a1;go_wp2;go_roundw;case rel=>exact⟨lt++[u],a7,c7,by simp;omega,by first|go_num|(congr 1;simp),by rw[show(lt++[u]).length=lt.length+1 from by simp];exact S7.out,AU⟩
    case measure=>simp[intOf];omega)
  ·have i1:¬(lt.length:Int)<(tn:Int):=qQ;have ET:Hid (lt.length=tn):=qC qQ;obtain⟨a0,a1⟩:=S1.out.a.two;simp only at a0 a1;have ST:=S1;have APT:=AP1;clear S1 AP1;go_wp2;clear a0 a1 i1 hlt hl;go_loopw [26] (fun i wr=>∃(lo:List Ab) (oa:Option Addr) (co:Nat),lo.length<=onn/\i= iT qH lo.length/\KU w (Av.mk ta0 tn tk T oa0 onn okk O) wr (qV ta lt.length ca) (qV oa lo.length co) lt lo/\Apart lt lo/\Ls lo) (fun i _=>onn-(intOf i).toNat)
   case atStart=>exact⟨[],none,0,qy _,rfl,ST,APT,fun x hx=>by cases hx⟩
   case round=>
    clear ST APT;obtain⟨lo,oa,co,hl,rfl,st,ap,ti⟩:=hrel;have TI1:=qC ti;clear ti;have S1:=qC st;have AP1:=qC ap;clear st ap;by_cases hlt:lo.length<onn
    ·have i1:(lo.length:Int)<(onn:Int):=qQ;have i0:(0:Int)<=(lo.length:Int):=qQ;obtain⟨b,off,ea,hbl,hc⟩:=HO.out qQ;subst ea;have n2:Na #[iT qH (O lo.length).id,iT qH (O lo.length).kind,iT qH (O lo.length).up,iT qH (O lo.length).b1,qV (O lo.length).c1.a (O lo.length).c1.n (O lo.length).c1.k,.string (O lo.length).data,qV (O lo.length).jA.a (O lo.length).jA.n (O lo.length).jA.k,qV (O lo.length).own.a (O lo.length).own.n (O lo.length).own.k,iT qH (O lo.length).b2,qV (O lo.length).c2.a (O lo.length).c2.n (O lo.length).c2.k]:=⟨⟩;have n7:Nw (wr.alloc (qG n2 59)):=⟨⟩;have bd:Below wr wr (n7:qM).drew:=(Bg wr (qG n2 59)).drew;have SD:=qC (S1.out.below bd);have CC:Di wr b (off+lo.length*10) (O lo.length):=(hc lo.length hlt).1.below hbl S1.out.be;have q0:wr.cell? ⟨b,off+lo.length*10,none⟩=some (iT qH (O lo.length).id):=CC.c0;have q1:wr.cell? ⟨b,off+lo.length*10+1,none⟩=some (iT qH (O lo.length).kind):=CC.c1;have q2:wr.cell? ⟨b,off+lo.length*10+2,none⟩=some (iT qH (O lo.length).up):=CC.c2;have q3:wr.cell? ⟨b,off+lo.length*10+3,none⟩=some (iT qH (O lo.length).b1):=CC.c3;have q4:wr.cell? ⟨b,off+lo.length*10+4,none⟩=some (qV (O lo.length).c1.a (O lo.length).c1.n (O lo.length).c1.k):=CC.c4;have q5:wr.cell? ⟨b,off+lo.length*10+5,none⟩=some (.string (O lo.length).data):=CC.c5;have q6:wr.cell? ⟨b,off+lo.length*10+6,none⟩=some (qV (O lo.length).jA.a (O lo.length).jA.n (O lo.length).jA.k):=CC.c6;have q7:wr.cell? ⟨b,off+lo.length*10+7,none⟩=some (qV (O lo.length).own.a (O lo.length).own.n (O lo.length).own.k):=CC.c7;have q8:wr.cell? ⟨b,off+lo.length*10+8,none⟩=some (iT qH (O lo.length).b2):=CC.c8;have q9:wr.cell? ⟨b,off+lo.length*10+9,none⟩=some (qV (O lo.length).c2.a (O lo.length).c2.n (O lo.length).c2.k):=CC.c9;have hbw:b<wr.heap.size:=qv hbl S1.out.be.size;obtain⟨a0,a1⟩:=S1.out.a.two;obtain⟨x0,x1⟩:=SD.out.a.two;obtain⟨y0,y1⟩:=SD.out.o.two;simp only at a0 a1 x0 x1;have CP:Hid (Calls prog 40 #[.agg n2] (n7:qM).drew fun e w'=>∃v,e= .returned v/\(∃u:Ab,v= .agg u/\(O lo.length).same u/\u.new (n7:qM).drew.heap.size w'/\(u.jA.n<=u.jA.k/\u.jA.k<=maxLen)/\(u.cb.Nodup/\u.jA.tight)/\Below (n7:qM).drew.heap.size (n7:qM).drew w')):=qC ((MO (O lo.length) (n7:qM).drew ((hc lo.length hlt).2.below SD.out.be) (SMALL.out.2.2 lo.length hlt)).mono fun _ _ ⟨u,e1,h1,h2,h3,_,h5,h4⟩=>⟨_,e1,u,rfl,h1,h2,h3,h5,h4⟩);have EG:Hid (∀args w,(callFunc 40 args).run prog w= .ok (.enter 40 args) w):=qC (enters_of func40 kR rfl);have BX:=qC (show Ag (n7:qM).drew wr (qG n2 59) from Ag.new wr (qG n2 59));obtain⟨p0,p1,p2,p3,p4,p5,p6,p7,p8,p9⟩:=BX.out.jE;have lm:lo.length<=1048576:=(by have:=SMALL.out.2.1;omega);clear hc CC bd;have sz0:=S1.out.be.size;go_wp2_with fail
     go_region_law(first
      |(refine EJ qK 40 _ _ qK EG _ qK _ CP ?_;rintro v w5 ⟨u,rfl,su,nu,cu,du,b5⟩;have CU:=qC cu;have AU:=qC (AP1.out.addO SD.out.st nu nr du.1);have TU:=qC (TI1.out.add du.2);have S5:=qC (SD.out.below b5);have S5a:=qC ((SD.out.below b5).below (Bg w5 (qG u 59)));have N5:=qC ((nu.low SD.out.be.size).keeps (Dk.of_below (Bg w5 (qG u 59))).l);have SU:=qC su;have ONE:Hid (Bl (w5.alloc (qG u 59)) (some ⟨w5,0,none⟩) 1 (Ax [u])):=qC (AW.one w5 u);have s5:w.heap.size<=(w5.alloc (qG u 59)).heap.size:=S5a.out.be.size;obtain⟨m0,m1⟩:=S5.out.o.two;obtain⟨n0,n1⟩:=S5a.out.o.two;clear su nu b5 cu du)
      |(refine GH qK _ _ qK w (qV oa lo.length co) lo qK S5a.out.st.o _ _ u qK ONE lm s5 ?_;intro a7 c7 w7 o7 g7;have AD:=S5a.out.addO o7 g7 N5 SU CU.out;have S7:=qC AD.2;obtain⟨z0,z1⟩:=AD.1.two;have zf:=AD.1.jC;clear AD o7 g7))
     all_goals(
      clear p0 p1 p2 p3 p4 p5 p6 p7 p8 p9 m0 m1 n0 n1 x0 x1 y0 y1 q0 q1 q2 q3 q4 q5 q6 q7 q8 q9 a0 a1;go_wp2;go_roundw;case rel=>exact⟨lo++[u],a7,c7,by simp;omega,by first|go_num|(congr 1;simp),by rw[show(lo++[u]).length=lo.length+1 from by simp];exact S7.out,AU,TU⟩
      case measure=>simp[intOf];omega)
    ·have el:lo.length=onn:=qQ;have i1:¬(lo.length:Int)<(onn:Int):=qQ;have EL:=qC el;obtain⟨a0,a1⟩:=S1.out.a.two;simp only at a0 a1;obtain⟨y0,y1⟩:=S1.out.o.two;obtain⟨r0,r1⟩:=S1.out.r.two;have rf:=S1.out.r.jC;clear el;go_wp2;refine bodyPost_ret (Ih _ _ (w.heap.size+1) 2 _ _ Tryz.results14 ((S1.out.r.jB (i:=0) _).jB (i:=1) _) rfl) rfl ⟨lt,lo,ta,oa,ca,co,rfl,(S1.out.st.set S1.out.r (.inl rfl) _).set (S1.out.r.jB (i:=0) _) (.inl rfl) _,AP1,TI1,⟨ET,fun j hj=>S1.out.st1 j (by rw[ET.out];exact hj),EL,fun j hj=>S1.out.so1 j (by rw[EL.out];exact hj)⟩,?_⟩;exact(S1.out.be.setCell qJ _).setCell qJ _
end Go.Proofs.YtdaccbddcjlkpaaGreatDoor
