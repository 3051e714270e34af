import Derived.Test.YtmikapeeflcbfaaGreatDoorRows
import Derived.Test.YtmikapeeflcbfaaGreatDoorZ0
import Derived.ProofKit
import Derived.OpenShut
import Derived.ShutString
import Derived.ChangeOld
import Derived.Lib.SmallJoins
import Derived.Deep.SlicePairs
import Derived.Test.YtmikapeeflcbfaaGreatDoorZ38
import Derived.Test.YtmikapeeflcbfaaGreatDoorZ9
set_option maxRecDepth 100000
namespace Go.Proofs.YtmikapeeflcbfaaGreatDoor
open Go.ChangeShapes Go.WideShapes Go.ChangeAt Go.RowKit Go.Deep Go.Joins Go.Proofs.Tryz
theorem Tryz.ownKnob:Go.ownKnob prog.godebug=none:=by kernel_rfl
theorem Tryz.laidOut:laidOutB prog=true:=by kernel_rfl
theorem Tryz.cells28:prog.cellsOf 28=2:=by kernel_rfl
theorem Tryz.cells147:prog.cellsOf 147=2:=by kernel_rfl
theorem Tryz.cells2:prog.cellsOf 2=1:=by kernel_rfl
theorem Tryz.cells26:prog.cellsOf 26=1:=by kernel_rfl
theorem J7{w:World}{b o:Nat}{v:Value}(h:w.cell? ⟨b,o,none⟩=some v):b<w.heap.size:=by
 apply Nat.lt_of_not_le;intro hle;have:w.heap[b]? =none:=Array.getElem?_eq_none hle;simp[World.cell?,this]at h
theorem Kq{H:Type}{enc:TypeId×Value->H}{W:World}{fuel:Nat}{v:Value}{x:DataW H×List MemPlace}
 (h:DataW.trod enc prog W 0 (fun _=>true) true fuel 26 [v]=some x):
 ∃(a:Option Addr) (n cap:Nat) (f g:Nat->Int),v= .slice a n cap/\n<=maxLen/\An W a n f g/\∀i,i<n->(Lit.int .i64 (f i)).wf=true/\(Lit.int .i64 (g i)).wf=true:=by
 rcases open_slice_pairs underlying26 underlying147 Tryz.cells147 rfl rfl Tryz.cells2 Tryz.cells2 h with⟨hcs,_⟩|⟨a,len,cap,m,k,V0,V1,D0,D1,P0,P1,hcs,_,hl,hm,hmm,_,hall⟩
 ·simp only[List.cons.injEq,and_true]at hcs;exact⟨none,0,0,fun _=>0,fun _=>0,hcs,Nat.zero_le _,fun h0=>by omega,fun i hi=>by omega⟩
 ·simp only[List.cons.injEq,and_true]at hcs;simp only[if_true]at hmm;subst hmm;have each:∀i,i<len->∃q:Int×Int,V0 i= .int .i64 q.1/\V1 i= .int .i64 q.2/\(Lit.int .i64 q.1).wf=true/\(Lit.int .i64 q.2).wf=true:=fun i hi=>by
   obtain⟨_,_,t0,t1⟩:=hall i (by omega);obtain⟨n0,e0,_,w0⟩:=DataW.trod_int underlying2 t0;obtain⟨n1,e1,_,w1⟩:=DataW.trod_int underlying2 t1;simp only[List.cons.injEq,and_true]at e0 e1;exact⟨(n0,n1),e0,e1,w0,w1⟩
  obtain⟨q,hq⟩:=choose_lt each;refine⟨some a,len,m,fun i=>(q i).1,fun i=>(q i).2,hcs,Nat.le_trans hl hm,fun h0=>?_,fun i hi=>⟨(hq i hi).2.2.1,(hq i hi).2.2.2⟩⟩;obtain⟨b,off,spot⟩:=a;have c0:=(hall 0 (by omega)).1;have hspot:spot=none:=by simpa[Addr.add]using World.cell?_spot c0
  subst hspot;have c0':W.cell? ⟨b,off,none⟩=some (V0 0):=by simpa[Addr.add]using c0
  refine⟨b,off,rfl,J7 c0',fun i hi=>?_⟩;obtain⟨t0,t1,_,_⟩:=hall i (by omega);obtain⟨e0,e1,_,_⟩:=hq i hi;rw[e0]at t0;rw[e1]at t1;rw[add_plain]at t0 t1;exact⟨t0,by rw[Nat.add_assoc];exact t1⟩
theorem Zq{H:Type}{enc:TypeId×Value->H}{W:World}{r:Reach}{b0:Nat}{v:Value}{d:DataW H}{p:List MemPlace}
 (hv:Value.okWide prog W r b0 28 v)(h:DataW.Trod enc prog W 0 (fun _=>true) true 28 v d p):
 ∃(base:Int) (a:Option Addr) (n cap:Nat) (f g:Nat->Int),v= .agg #[.int .i64 base,.slice a n cap]/\(Lit.int .i64 base).wf=true/\n<=maxLen/\An W a n f g/\∀i,i<n->(Lit.int .i64 (f i)).wf=true/\(Lit.int .i64 (g i)).wf=true:=by
 obtain⟨c0,c1,y0,y1,m,rfl,_,_,hy0,hy1⟩:=open_agg2 underlying28 (by kernel_rfl) Tryz.cells28 hv h;obtain⟨base,e0,_,wb⟩:=DataW.trod_int underlying2 hy0;obtain⟨a,n,cap,f,g,rfl,hn,hc,hw⟩:=Kq hy1;simp only[List.cons.injEq,and_true]at e0;subst e0;exact⟨base,a,n,cap,f,g,rfl,wb,hn,hc,hw⟩
theorem Tryz.cells78:prog.cellsOf 78=7:=by kernel_rfl
theorem Tryz.cells76:prog.cellsOf 76=1:=by kernel_rfl
theorem PN{H:Type}{enc:TypeId×Value->H}{W:World}{fuel:Nat}{v:Value}{x:DataW H×List MemPlace}
 (h:DataW.trod enc prog W 0 (fun _=>true) true fuel 76 [v]=some x):
 ∃(a:Option Addr) (n cap:Nat) (f:Nat->Int),v= .slice a n cap/\n<=maxLen/\AJ W a n f/\∀i,i<n->(Lit.int .i64 (f i)).wf=true:=by
 rcases open_ints underlying76 underlying2 Tryz.cells2 h with⟨hcs,_⟩|⟨a,len,cap,zs,hcs,_,hl,hm,hz,_,hcell,hwz⟩
 ·simp only[List.cons.injEq,and_true]at hcs;exact⟨none,0,0,fun _=>0,hcs,Nat.zero_le _,fun h0=>by omega,fun i hi=>by omega⟩
 ·simp only[List.cons.injEq,and_true]at hcs;have hzl:zs.length=cap:=by simpa using hz
  refine⟨some a,len,cap,fun i=>zs.getD i 0,hcs,Nat.le_trans hl hm,fun h0=>?_,fun i hi=>?_⟩
  ·obtain⟨b,off,spot⟩:=a;have c0:=hcell 0 (by omega);have hspot:spot=none:=(by simpa[Addr.add]using World.cell?_spot c0);subst hspot;have c0':W.cell? ⟨b,off,none⟩=some (.int .i64 (zs.getD 0 0)):=(by simpa[Addr.add]using c0);refine⟨b,off,rfl,J7 c0',fun i hi=>?_⟩;have t:=hcell i (by omega);rw[add_plain]at t;exact t
  ·have hi':i<zs.length:=(by omega);refine hwz _ ?_;simp only[List.getD_eq_getElem?_getD,List.getElem?_eq_getElem hi',Option.getD_some];exact List.getElem_mem hi'
theorem Fz{H:Type}{enc:TypeId×Value->H}{W:World}{fuel:Nat}{v0 v1:Value}{x:DataW H×List MemPlace}
 (h:DataW.trod enc prog W 0 (fun _=>true) true fuel 28 [v0,v1]=some x):
 ∃(base:Int) (a:Option Addr) (n cap:Nat) (f g:Nat->Int),v0= .int .i64 base/\v1= .slice a n cap/\n<=maxLen/\An W a n f g:=by
 obtain⟨xs,k,hk,_,_,hxl,hf⟩:=DataW.trod_struct underlying28 h;match xs,hxl with
 |[y0,y1],_=>
  have g0:=hf 0 _ rfl;have g1:=hf 1 _ rfl;simp[Tryz.cells2,Tryz.cells26]at g0 g1;obtain⟨base,e0,_,_⟩:=DataW.trod_int underlying2 g0;obtain⟨a,n,cap,f,g,rfl,hn,hc,_⟩:=Kq g1;simp only[List.cons.injEq,and_true]at e0;exact⟨base,a,n,cap,f,g,e0,rfl,hn,hc⟩
theorem Zl{H:Type}{enc:TypeId×Value->H}{W:World}{r:Reach}{b0:Nat}{v:Value}{d:DataW H}{p:List MemPlace}
 (hv:Value.okWide prog W r b0 78 v)(h:DataW.Trod enc prog W 0 (fun _=>true) true 78 v d p):
 ∃(id made b1:Int) (a1:Option Addr) (n1 k1:Nat) (f1 g1:Nat->Int) (b2:Int) (a2:Option Addr) (n2 k2:Nat) (f2 g2:Nat->Int) (a3:Option Addr) (n3 k3:Nat) (q:Nat->Int),
  v= .agg #[.int .i64 id,.int .i64 b1,.slice a1 n1 k1,.int .i64 b2,.slice a2 n2 k2,.slice a3 n3 k3,.int .i64 made]/\n1<=maxLen/\n2<=maxLen/\n3<=maxLen/\An W a1 n1 f1 g1/\An W a2 n2 f2 g2/\AJ W a3 n3 q:=by
 obtain⟨cs,rfl,hsz⟩:=okWide_struct underlying78 hv;rw[Tryz.cells78]at hsz;obtain⟨fuel,hf0⟩:=h;obtain⟨xs,k,hk,_,_,hxl,hf⟩:=DataW.trod_struct underlying78 hf0;obtain⟨l⟩:=cs;match l,hsz with
 |[c0,c1,c2,c3,c4,c5,c6],_=>
  match xs,hxl with
  |[y0,y1,y2,y3,y4],_=>
   have g0:=hf 0 _ rfl;have g1:=hf 1 _ rfl;have g2:=hf 2 _ rfl;have g3:=hf 3 _ rfl;have g4:=hf 4 _ rfl;simp[Value.cells,Tryz.cells2,Tryz.cells28,Tryz.cells76]at g0 g1 g2 g3 g4;obtain⟨id,e0,_,_⟩:=DataW.trod_int underlying2 g0;obtain⟨b1,a1,n1,k1,f1,h1,rfl,rfl,hn1,hc1⟩:=Fz g1;obtain⟨b2,a2,n2,k2,f2,h2,rfl,rfl,hn2,hc2⟩:=Fz g2;obtain⟨a3,n3,k3,q,rfl,hn3,hc3,_⟩:=PN g3;obtain⟨made,e4,_,_⟩:=DataW.trod_int underlying2 g4;simp only[List.cons.injEq,and_true]at e0 e4;subst e0 e4;exact⟨id,made,b1,a1,n1,k1,f1,h1,b2,a2,n2,k2,f2,h2,a3,n3,k3,q,rfl,hn1,hn2,hn3,hc1,hc2,hc3⟩
theorem Tryz.cells82:prog.cellsOf 82=10:=by kernel_rfl
theorem Tryz.cells9:prog.cellsOf 9=1:=by kernel_rfl
theorem Tryz.cells80:prog.cellsOf 80=1:=by kernel_rfl
theorem Tryz.cells22:prog.cellsOf 22=1:=by kernel_rfl
theorem Tryz.cells23:prog.cellsOf 23=1:=by kernel_rfl
theorem Tryz.cells25:prog.cellsOf 25=2:=by kernel_rfl
instance:Inhabited Ac:=⟨⟨0,0,⟨none,0,0,fun _=>0,fun _=>0⟩,0,⟨none,0,0,fun _=>0,fun _=>0⟩,⟨none,0,0,fun _=>0⟩,0⟩⟩
instance:Inhabited Ab:=⟨⟨0,0,0,0,⟨none,0,0,fun _=>0,fun _=>0⟩,⟨#[]⟩,⟨none,0,0,fun _=>⟨#[]⟩⟩,⟨none,0,0,fun _=>0⟩,0,⟨none,0,0,fun _=>0,fun _=>0⟩⟩⟩
section
variable {H:Type}{enc:TypeId×Value->H}{W:World}
theorem bW{fuel:Nat}{v:Value}{x:DataW H×List MemPlace}(h:DataW.trod enc prog W 0 (fun _=>true) true fuel 26 [v]=some x):∃c:Al,v=c.val/\c.at W:=by
 obtain⟨a,n,cap,f,g,e,hn,hc,_⟩:=Kq h;exact⟨⟨a,n,cap,f,g⟩,e,hn,hc⟩
theorem WY{fuel:Nat}{v:Value}{x:DataW H×List MemPlace}(h:DataW.trod enc prog W 0 (fun _=>true) true fuel 76 [v]=some x):∃c:Av,v=c.val/\c.at W:=by
 obtain⟨a,n,cap,f,e,hn,hc,_⟩:=PN h;exact⟨⟨a,n,cap,f⟩,e,hn,hc⟩
theorem ai{fuel:Nat}{v:Value}{x:DataW H×List MemPlace}(h:DataW.trod enc prog W 0 (fun _=>true) true fuel 80 [v]=some x):∃c:Ao,v=c.val/\c.at W:=by
 rcases open_slice1 underlying80 Tryz.cells9 h with⟨hcs,_⟩|⟨a,len,cap,m,k,V,D,Pl,hcs,_,hl,hm,hmm,_,hx⟩
 ·simp only[List.cons.injEq,and_true]at hcs;exact⟨⟨none,0,0,fun _=>⟨#[]⟩⟩,hcs,Nat.zero_le _,fun h=>by simp at h,fun i hi=>by simp at hi⟩
 ·simp only[List.cons.injEq,and_true]at hcs;simp only[if_true]at hmm;subst hmm;have each:∀i,i<len->∃s:ByteArray,V i= .string s/\s.size<=maxLen:=fun i hi=>by
   obtain⟨_,t⟩:=hx i (by omega);obtain⟨s,e,_,hs⟩:=DataW.trod_string underlying9 t;simp only[List.cons.injEq,and_true]at e;exact⟨s,e,hs⟩
  obtain⟨q,hq⟩:=choose_lt each;refine⟨⟨some a,len,m,q⟩,hcs,Nat.le_trans hl hm,fun h0=>?_,fun i hi=>(hq i hi).2⟩;obtain⟨b,off,spot⟩:=a;have hp:0<len:=h0;have c0:=(hx 0 (by omega)).1;have hspot:spot=none:=by simpa[Addr.add]using World.cell?_spot c0
  subst hspot;have c0':W.cell? ⟨b,off,none⟩=some (V 0):=by simpa[Addr.add]using c0
  refine⟨b,off,rfl,J7 c0',fun i hi=>?_⟩;have hi':i<len:=hi;have t:=(hx i (by omega)).1;rw[add_plain,(hq i hi').1]at t;exact t
theorem UM{fuel:Nat}{v0 v1:Value}{x:DataW H×List MemPlace}(h:DataW.trod enc prog W 0 (fun _=>true) true fuel 28 [v0,v1]=some x):∃(b:Int) (c:Al),v0= .int .i64 b/\v1=c.val/\c.at W:=by
 obtain⟨b,a,n,cap,f,g,e0,e1,hn,hc⟩:=Fz h;exact⟨b,⟨a,n,cap,f,g⟩,e0,e1,hn,hc⟩
theorem aZ{fuel:Nat}{c0 c1 c2 c3 c4 c5 c6:Value}{x:DataW H×List MemPlace}(h:DataW.trod enc prog W 0 (fun _=>true) true fuel 78 [c0,c1,c2,c3,c4,c5,c6]=some x):
 ∃t:Ac,t.at W/\c0= .int .i64 t.id/\c1= .int .i64 t.b1/\c2=t.c1.val/\c3= .int .i64 t.b2/\c4=t.c2.val/\c5=t.own.val/\c6= .int .i64 t.made:=by
 obtain⟨xs,k,hk,_,_,hxl,hf⟩:=DataW.trod_struct underlying78 h;match xs,hxl with
 |[y0,y1,y2,y3,y4],_=>
  have g0:=hf 0 _ rfl;have g1:=hf 1 _ rfl;have g2:=hf 2 _ rfl;have g3:=hf 3 _ rfl;have g4:=hf 4 _ rfl;simp[Tryz.cells2,Tryz.cells28,Tryz.cells76]at g0 g1 g2 g3 g4;obtain⟨id,e0,_,_⟩:=DataW.trod_int underlying2 g0;obtain⟨b1,d1,e1,e2,hd1⟩:=UM g1;obtain⟨b2,d2,e3,e4,hd2⟩:=UM g2;obtain⟨d3,e5,hd3⟩:=WY g3;obtain⟨made,e6,_,_⟩:=DataW.trod_int underlying2 g4;simp only[List.cons.injEq,and_true]at e0 e6;exact⟨⟨id,b1,d1,b2,d2,d3,made⟩,⟨hd1,hd2,hd3⟩,e0,e1,e2,e3,e4,e5,e6⟩
theorem bi{fuel:Nat}{c0 c1 c2 c3 c4 c5 c6 c7 c8 c9:Value}{x:DataW H×List MemPlace}(h:DataW.trod enc prog W 0 (fun _=>true) true fuel 82 [c0,c1,c2,c3,c4,c5,c6,c7,c8,c9]=some x):
 ∃t:Ab,t.at W/\(Lit.int .i64 t.id).wf=true/\(Lit.int .i64 t.up).wf=true/\c0= .int .i64 t.id/\c1= .int .i64 t.kind/\c2= .int .i64 t.up/\c3= .int .i64 t.b1/\c4=t.c1.val/\c5= .string t.data/\c6=t.jA.val/\c7=t.own.val/\c8= .int .i64 t.b2/\c9=t.c2.val:=by
 obtain⟨xs,k,hk,_,_,hxl,hf⟩:=DataW.trod_struct underlying82 h;match xs,hxl with
 |[y0,y1,y2,y3,y4,y5,y6,y7],_=>
  have g0:=hf 0 _ rfl;have g1:=hf 1 _ rfl;have g2:=hf 2 _ rfl;have g3:=hf 3 _ rfl;have g4:=hf 4 _ rfl;have g5:=hf 5 _ rfl;have g6:=hf 6 _ rfl;have g7:=hf 7 _ rfl;simp[Tryz.cells2,Tryz.cells28,Tryz.cells76,Tryz.cells80,Tryz.cells9]at g0 g1 g2 g3 g4 g5 g6 g7;obtain⟨id,e0,_,w0⟩:=DataW.trod_int underlying2 g0;obtain⟨kind,e1,_,_⟩:=DataW.trod_int underlying2 g1;obtain⟨up,e2,_,w2⟩:=DataW.trod_int underlying2 g2;obtain⟨b1,d1,e3,e4,hd1⟩:=UM g3;obtain⟨s,e5,_,hs⟩:=DataW.trod_string underlying9 g4;obtain⟨d2,e6,hd2⟩:=ai g5;obtain⟨d3,e7,hd3⟩:=WY g6;obtain⟨b2,d4,e8,e9,hd4⟩:=UM g7;simp only[List.cons.injEq,and_true]at e0 e1 e2 e5;exact⟨⟨id,kind,up,b1,d1,s,d2,d3,b2,d4⟩,⟨hd1,hd2,hd3,hd4,hs⟩,w0,w2,e0,e1,e2,e3,e4,e5,e6,e7,e8,e9⟩
theorem Zp{fuel:Nat}{v:Value}{x:DataW H×List MemPlace}(h:DataW.trod enc prog W 0 (fun _=>true) true fuel 22 [v]=some x):
 ∃(a:Option Addr) (n cap:Nat) (T:Nat->Ac),v= .slice a n cap/\n<=maxLen/\n<=cap/\E9 W a n T:=by
 rcases open_slice underlying22 h with⟨hcs,_⟩|⟨a,len,cap,m,k,D,Pl,hcs,_,hl,hm,hmm,_,hx⟩
 ·simp only[List.cons.injEq,and_true]at hcs;exact⟨none,0,0,fun _=>⟨0,0,⟨none,0,0,fun _=>0,fun _=>0⟩,0,⟨none,0,0,fun _=>0,fun _=>0⟩,⟨none,0,0,fun _=>0⟩,0⟩,hcs,Nat.zero_le _,Nat.le_refl _,fun h=>by omega⟩
 ·simp only[List.cons.injEq,and_true]at hcs;simp only[if_true]at hmm;subst hmm;have each:∀i,i<len->∃t:Ac,t.at W/\W.cell? (a.add (i*7))=some (.int .i64 t.id)/\W.cell? (a.add (i*7+1))=some (.int .i64 t.b1)/\W.cell? (a.add (i*7+2))=some t.c1.val/\W.cell? (a.add (i*7+3))=some (.int .i64 t.b2)/\W.cell? (a.add (i*7+4))=some t.c2.val/\W.cell? (a.add (i*7+5))=some t.own.val/\W.cell? (a.add (i*7+6))=some (.int .i64 t.made):=fun i hi=>by
   obtain⟨cs',h1,h2⟩:=hx i (by omega);rw[Tryz.cells78]at h1;obtain⟨_,hlen,hcell⟩:=World.cells?_some h1;match cs',hlen with
   |[v0,v1,v2,v3,v4,v5,v6],_=>
    obtain⟨t,ht,q0,q1,q2,q3,q4,q5,q6⟩:=aZ h2;have e0:=hcell 0 (by omega);have e1:=hcell 1 (by omega);have e2:=hcell 2 (by omega);have e3:=hcell 3 (by omega);have e4:=hcell 4 (by omega);have e5:=hcell 5 (by omega);have e6:=hcell 6 (by omega);rw[add_add]at e0 e1 e2 e3 e4 e5 e6;subst q0 q1 q2 q3 q4 q5 q6;exact⟨t,ht,by simpa using e0,by simpa using e1,by simpa using e2,by simpa using e3,by simpa using e4,by simpa using e5,by simpa using e6⟩
  obtain⟨q,hq⟩:=choose_lt each;obtain⟨b,off,spot⟩:=a;refine⟨_,len,_,q,hcs,Nat.le_trans hl hm,hl,fun hp=>?_⟩;have c0:=(hq 0 hp).2.1;have hspot:spot=none:=by simpa[Addr.add]using World.cell?_spot c0
  subst hspot;have c0':W.cell? ⟨b,off,none⟩=some (.int .i64 (q 0).id):=by simpa[Addr.add]using c0
  refine⟨b,off,rfl,J7 c0',fun i hi=>?_⟩;obtain⟨ht,t0,t1,t2,t3,t4,t5,t6⟩:=hq i hi;rw[add_plain]at t0 t1 t2 t3 t4 t5 t6;simp only[<-Nat.add_assoc]at t1 t2 t3 t4 t5 t6;exact⟨⟨t0,t1,t2,t3,t4,t5,t6⟩,ht⟩
theorem am{fuel:Nat}{v:Value}{x:DataW H×List MemPlace}(h:DataW.trod enc prog W 0 (fun _=>true) true fuel 23 [v]=some x):
 ∃(a:Option Addr) (n cap:Nat) (T:Nat->Ab),v= .slice a n cap/\n<=maxLen/\n<=cap/\Et W a n T/\∀i,i<n->(Lit.int .i64 (T i).id).wf=true/\(Lit.int .i64 (T i).up).wf=true:=by
 rcases open_slice underlying23 h with⟨hcs,_⟩|⟨a,len,cap,m,k,D,Pl,hcs,_,hl,hm,hmm,_,hx⟩
 ·simp only[List.cons.injEq,and_true]at hcs;exact⟨none,0,0,fun _=>⟨0,0,0,0,⟨none,0,0,fun _=>0,fun _=>0⟩,⟨#[]⟩,⟨none,0,0,fun _=>⟨#[]⟩⟩,⟨none,0,0,fun _=>0⟩,0,⟨none,0,0,fun _=>0,fun _=>0⟩⟩,hcs,Nat.zero_le _,Nat.le_refl _,fun h=>by omega,fun i hi=>by omega⟩
 ·simp only[List.cons.injEq,and_true]at hcs;simp only[if_true]at hmm;subst hmm;have each:∀i,i<len->∃t:Ab,(t.at W/\(Lit.int .i64 t.id).wf=true/\(Lit.int .i64 t.up).wf=true)/\W.cell? (a.add (i*10))=some (.int .i64 t.id)/\W.cell? (a.add (i*10+1))=some (.int .i64 t.kind)/\W.cell? (a.add (i*10+2))=some (.int .i64 t.up)/\W.cell? (a.add (i*10+3))=some (.int .i64 t.b1)/\W.cell? (a.add (i*10+4))=some t.c1.val/\W.cell? (a.add (i*10+5))=some (.string t.data)/\W.cell? (a.add (i*10+6))=some t.jA.val/\W.cell? (a.add (i*10+7))=some t.own.val/\W.cell? (a.add (i*10+8))=some (.int .i64 t.b2)/\W.cell? (a.add (i*10+9))=some t.c2.val:=fun i hi=>by
   obtain⟨cs',h1,h2⟩:=hx i (by omega);rw[Tryz.cells82]at h1;obtain⟨_,hlen,hcell⟩:=World.cells?_some h1;match cs',hlen with
   |[v0,v1,v2,v3,v4,v5,v6,v7,v8,v9],_=>
    obtain⟨t,ht,w0,w2,q0,q1,q2,q3,q4,q5,q6,q7,q8,q9⟩:=bi h2;have e0:=hcell 0 (by omega);have e1:=hcell 1 (by omega);have e2:=hcell 2 (by omega);have e3:=hcell 3 (by omega);have e4:=hcell 4 (by omega);have e5:=hcell 5 (by omega);have e6:=hcell 6 (by omega);have e7:=hcell 7 (by omega);have e8:=hcell 8 (by omega);have e9:=hcell 9 (by omega);rw[add_add]at e0 e1 e2 e3 e4 e5 e6 e7 e8 e9;subst q0 q1 q2 q3 q4 q5 q6 q7 q8 q9;exact⟨t,⟨ht,w0,w2⟩,by simpa using e0,by simpa using e1,by simpa using e2,by simpa using e3,by simpa using e4,by simpa using e5,by simpa using e6,by simpa using e7,by simpa using e8,by simpa using e9⟩
  obtain⟨q,hq⟩:=choose_lt each;obtain⟨b,off,spot⟩:=a;refine⟨_,len,_,q,hcs,Nat.le_trans hl hm,hl,fun hp=>?_,fun i hi=>(hq i hi).1.2⟩;have c0:=(hq 0 hp).2.1;have hspot:spot=none:=by simpa[Addr.add]using World.cell?_spot c0
  subst hspot;have c0':W.cell? ⟨b,off,none⟩=some (.int .i64 (q 0).id):=by simpa[Addr.add]using c0
  refine⟨b,off,rfl,J7 c0',fun i hi=>?_⟩;obtain⟨ht,t0,t1,t2,t3,t4,t5,t6,t7,t8,t9⟩:=hq i hi;rw[add_plain]at t0 t1 t2 t3 t4 t5 t6 t7 t8 t9;simp only[<-Nat.add_assoc]at t1 t2 t3 t4 t5 t6 t7 t8 t9;exact⟨⟨t0,t1,t2,t3,t4,t5,t6,t7,t8,t9⟩,ht.1⟩
theorem Ri{r:Reach}{b0:Nat}{v:Value}{d:DataW H}{p:List MemPlace}
 (hv:Value.okWide prog W r b0 25 v)(h:DataW.Trod enc prog W 0 (fun _=>true) true 25 v d p):
 ∃k:Ar,v=k.val/\k.at W/\k.on<=k.ok/\k.wfs:=by
 obtain⟨c0,c1,y0,y1,m,rfl,_,_,hy0,hy1⟩:=open_agg2 underlying25 (by kernel_rfl) Tryz.cells25 hv h;obtain⟨ta,tn,tk,T,rfl,h1,_,h3⟩:=Zp hy0;obtain⟨oa,on,ok,O,rfl,h4,h5,h6,h7⟩:=am hy1;exact⟨⟨ta,tn,tk,T,oa,on,ok,O⟩,rfl,⟨h1,h4,h3,h6⟩,h5,h7⟩
end
theorem Tryz.cells30:prog.cellsOf 30=10:=by kernel_rfl
theorem Vw{H:Type}{enc:TypeId×Value->H}{W:World}{r:Reach}{b0:Nat}{v:Value}{d:DataW H}{p:List MemPlace}
 (hv:Value.okWide prog W r b0 30 v)(h:DataW.Trod enc prog W 0 (fun _=>true) true 30 v d p):
 ∃(th kind id to' cat:Int) (t:ByteArray) (bl:Int) (al:Option Addr) (nl kl:Nat) (fl gl:Nat->Int) (bc:Int) (ac:Option Addr) (nc kc:Nat) (fc gc:Nat->Int),
  v= .agg #[th,.int .i64 kind,.int .i64 id,.int .i64 to',cat,.string t,.int .i64 bl,.slice al nl kl,.int .i64 bc,.slice ac nc kc]/\t.size<=maxLen/\nl<=maxLen/\nc<=maxLen/\An W al nl fl gl/\An W ac nc fc gc:=by
 obtain⟨cs,rfl,hsz⟩:=okWide_struct underlying30 hv;rw[Tryz.cells30]at hsz;obtain⟨fuel,hf0⟩:=h;obtain⟨xs,k,hk,_,_,hxl,hf⟩:=DataW.trod_struct underlying30 hf0;obtain⟨l⟩:=cs;match l,hsz with
 |[c0,c1,c2,c3,c4,c5,c6,c7,c8,c9],_=>
  match xs,hxl with
  |[y0,y1,y2,y3,y4,y5,y6,y7],_=>
   have g0:=hf 0 _ rfl;have g1:=hf 1 _ rfl;have g2:=hf 2 _ rfl;have g3:=hf 3 _ rfl;have g4:=hf 4 _ rfl;have g5:=hf 5 _ rfl;have g6:=hf 6 _ rfl;have g7:=hf 7 _ rfl;simp[Value.cells,Tryz.cells2,Tryz.cells28,Tryz.cells9]at g0 g1 g2 g3 g4 g5 g6 g7;obtain⟨th,e0,_,_⟩:=DataW.trod_int underlying2 g0;obtain⟨kind,e1,_,_⟩:=DataW.trod_int underlying2 g1;obtain⟨id,e2,_,_⟩:=DataW.trod_int underlying2 g2;obtain⟨to',e3,_,_⟩:=DataW.trod_int underlying2 g3;obtain⟨cat,e4,_,_⟩:=DataW.trod_int underlying2 g4;obtain⟨t,e5,_,ht⟩:=DataW.trod_string underlying9 g5;obtain⟨b1,a1,n1,k1,f1,h1,rfl,rfl,hn1,hc1⟩:=Fz g6;obtain⟨b2,a2,n2,k2,f2,h2,rfl,rfl,hn2,hc2⟩:=Fz g7;simp only[List.cons.injEq,and_true]at e0 e1 e2 e3 e4 e5;subst e0 e1 e2 e3 e4 e5;exact⟨th,kind,id,to',cat,t,b1,a1,n1,k1,f1,h1,b2,a2,n2,k2,f2,h2,rfl,ht,hn1,hn2,hc1,hc2⟩
theorem TW{H:Type}{enc:TypeId×Value->H}{W:World}{r:Reach}{b0:Nat}{v:Value}{d:DataW H}{p:List MemPlace}
 (hv:Value.okWide prog W r b0 30 v)(h:DataW.Trod enc prog W 0 (fun _=>true) true 30 v d p):∃s:Ak,v= .agg #[s.th,s.kind,s.id,s.to,s.cat,.string s.data,s.b1,.slice s.c1.a s.c1.n s.c1.k,s.b2,.slice s.c2.a s.c2.n s.c2.k]/\s.at W:=by
 obtain⟨th,kind,id,to',cat,t,bl,al,nl,kl,fl,gl,bc,ac,nc,kc,fc,gc,e,h1,h2,h3,h4,h5⟩:=Vw hv h;exact⟨⟨th,kind,id,to',cat,t,bl,⟨al,nl,kl,fl,gl⟩,bc,⟨ac,nc,kc,fc,gc⟩⟩,e,⟨h2,h4⟩,⟨h3,h5⟩,h1⟩
end Go.Proofs.YtmikapeeflcbfaaGreatDoor
