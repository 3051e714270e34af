import Derived.Test.YtmikapeeflcbfaaGreatDoorZ11
import Derived.Test.YtmikapeeflcbfaaGreatDoorZ13
import Derived.Test.YtmikapeeflcbfaaGreatDoorZ9
import Derived.Test.YtmikapeeflcbfaaGreatDoorZ3
import Derived.LaidEql
import Derived.Stop.Asserts
import Derived.RowKitTokens
import Derived.Test.YtmikapeeflcbfaaGreatDoorZ5
import Derived.Test.YtmikapeeflcbfaaGreatDoorZ10
import Derived.Test.YtmikapeeflcbfaaGreatDoorZ0
import Derived.Deep.DeepCutAuto
import Derived.RangeFuncNested
import Derived.RangeFuncBound
import Derived.RangeFuncCalls
import Derived.RangeFuncLeaves
set_option maxRecDepth 100000
set_option maxHeartbeats 16000000
namespace Go.Proofs.YtmikapeeflcbfaaGreatDoor
open Go Go.RowKit Go.Deep Go.Maps Go.BigFrame Go.Shelf Go.Proofs.Tryz
theorem Ti{ops:Array Oper}{o:Oper}{a:Act}{w:World}{K:Act->World->Prop}{Q:Exit->Act->World->Prop}{E:Prop}(hgd:o.guard=none)(f:Nat)(x y:Operand)(ats:Array TypeId)
 (ho:o.op= .call {callee:= .value (.func f),args:=#[x,y],argTypes:=ats})(eg:∀args w,(callFunc f args).run prog w= .ok (.enter f args) w)(v0 v1:Value)(hv:a.eval x=v0)(hv1:a.eval y=v1)
 (R:Value->World->Prop)(hc:Calls prog f #[v0,v1] w fun e w'=>∃v,e= .returned v/\R v w')(h:∀v w',R v w'->K (a.put o.dst v) w'):
 if Region.wanted o (yielded ops a.tmps)=true then Oper.wp prog o a w K Q else E:=by
 have hw:Region.wanted o (yielded ops a.tmps)=true:=by simp[Region.wanted,hgd]
 rw[if_pos hw];have e:(execOp a.eval o).run prog w= .ok (.enter f #[v0,v1]) w:=by
  unfold execOp;simp only[ho,resolve,invoke,Sem.run_bind,List.map_toArray,List.map_cons,List.map_nil,hv,hv1];simp[go_sem,eg,Act.eval]
 unfold Oper.wp;rw[e,Oper.upon_enter];exact hc.mono fun e w' ⟨v,he,hr⟩=>by subst he;exact h v w' hr
theorem Cg.setMade{w:World}{B g ca:Nat}{vo:Value}{lt:List Ac}{lo:List Ab}(h:Cg w B (.slice (some ⟨g,0,none⟩) lt.length ca) vo lt lo){t:Nat}{m:Int}(ht:t<lt.length){X:Ac}(hX:X=lt[t]):
 Cg (w.setCell ⟨g,t*7+6,none⟩ (.int .i64 m)) B (.slice (some ⟨g,0,none⟩) lt.length ca) vo (lt.set t ⟨X.id,X.b1,X.c1,X.b2,X.c2,X.own,m⟩) lo/\(∃cur,Ah w g (.cells cur 86))/\B<=g:=by
 have hn:=h.tn _ (List.getElem_mem ht);have hc:=h.tc _ (List.getElem_mem ht);rw[<-hX]at hn hc;obtain⟨k1,hcur,hg⟩:=h.setT (x:=⟨X.id,X.b1,X.c1,X.b2,X.c2,X.own,m⟩) (u:= .int .i64 m) ht (i:=6) (by omega) (by rw[<-hX];rfl) hn hc;have el:(lt.set t (⟨X.id,X.b1,X.c1,X.b2,X.c2,X.own,m⟩:Ac)).length=lt.length:=by simp
 rw[el]at k1;exact⟨k1,hcur,hg⟩
def Au(X:Ac):Int:=1000*X.id+X.made+1
theorem Tl(lt:List Ac)(lo:List Ab)(g ca:Nat)(oa:Option Addr)(co B:Nat)(w:World)(st:Cg w B (.slice (some ⟨g,0,none⟩) lt.length ca) (.slice oa lo.length co) lt lo)(hB:B<=w.heap.size)(t:Nat)(ht:t<lt.length)(X:Ac)(hX:X=lt[t])(xs:X.small)(s:Ak)(hk:s.kind=1)(hi:1<=X.id/\X.id<=9)(hm:0<=X.made/\X.made<=30)(ho:X.own.n<=10):
 Calls prog 45 #[.agg #[.slice (some ⟨g,0,none⟩) lt.length ca,.slice oa lo.length co],.int .i64 t,.agg #[s.th,s.kind,s.id,s.to,s.cat,.string s.data,s.b1,.slice s.c1.a s.c1.n s.c1.k,s.b2,.slice s.c2.a s.c2.n s.c2.k]] w fun e w'=>∃(x:Ac) (c:Int) (tx:ByteArray),e= .returned (.tuple #[.agg #[.slice (some ⟨g,0,none⟩) lt.length ca,.slice oa lo.length co],.int .i64 c,.string tx])/\Cg w' B (.slice (some ⟨g,0,none⟩) lt.length ca) (.slice oa lo.length co) (lt.set t x) lo/\Below B w w'/\((c=5/\(X.made=30∨X.own.n=10)/\x=X/\tx=⟨#[]⟩)∨(c=0/\¬(X.made=30∨X.own.n=10)/\tx=⟨(CY (Au X).toNat).toArray⟩/\∃(a:Option Addr) (cc:Nat),x=⟨X.id,X.b1,X.c1,X.b2,X.c2,⟨a,(Dh ((List.range X.own.n).map X.own.h) (Au X)).length,cc,AL (Dh ((List.range X.own.n).map X.own.h) (Au X))⟩,X.made+1⟩)):=by
 obtain⟨th,kd,id_,to_,cat,dat,sb1,sc1,sb2,sc2⟩:=s;simp only at hk ⊢;subst hk;have XN:Hid (X.new B w/\(X.own.n<=X.own.k/\X.own.k<=maxLen)):=hid (by rw[hX];exact⟨st.tn _ (List.getElem_mem ht),st.tc _ (List.getElem_mem ht)⟩);have XA:Hid (X.at w):=hid XN.out.1.at;have on1:X.own.n<=1048576:=xs.2.2;obtain⟨CW,gl⟩:=st.jJ ht;rw[<-hX]at CW;have n10:No (.cells #[.slice (some ⟨g,0,none⟩) lt.length ca,.slice oa lo.length co] 36):=⟨⟩;have n11:No (.cells #[th,.int .i64 1,id_,to_,cat,.string dat,sb1,.slice sc1.a sc1.n sc1.k,sb2,.slice sc2.a sc2.n sc2.k] 44):=⟨⟩;have n7:Nw ((w.alloc n10).alloc n11):=⟨⟩;have n9:No (.cells #[.slice none 0 0,.slice none 0 0] 36):=⟨⟩;have b3:Below w w ((n7:World).alloc n9):=(((Below.refl _ w).alloc (Nat.le_refl _) _).alloc (by simp) _).alloc (by simp;omega) _;have CC:=CW.below gl b3;have q0:((n7:World).alloc n9).cell? ⟨g,t*7,none⟩=some (.int .i64 X.id):=CC.c0;have q1:((n7:World).alloc n9).cell? ⟨g,t*7+1,none⟩=some (.int .i64 X.b1):=CC.c1;have q2:((n7:World).alloc n9).cell? ⟨g,t*7+2,none⟩=some (.slice X.c1.a X.c1.n X.c1.k):=CC.c2;have q3:((n7:World).alloc n9).cell? ⟨g,t*7+3,none⟩=some (.int .i64 X.b2):=CC.c3;have q4:((n7:World).alloc n9).cell? ⟨g,t*7+4,none⟩=some (.slice X.c2.a X.c2.n X.c2.k):=CC.c4;have q5:((n7:World).alloc n9).cell? ⟨g,t*7+5,none⟩=some (.slice X.own.a X.own.n X.own.k):=CC.c5;have q6:((n7:World).alloc n9).cell? ⟨g,t*7+6,none⟩=some (.int .i64 X.made):=CC.c6;have n8:No (.cells #[X.id,X.b1,.slice X.c1.a X.c1.n X.c1.k,X.b2,.slice X.c2.a X.c2.n X.c2.k,.slice X.own.a X.own.n X.own.k,X.made] 86):=⟨⟩;have b0:Below w w (((n7:World).alloc n9).alloc n8):=((((Below.refl _ w).alloc (Nat.le_refl _) _).alloc (by simp) _).alloc (by simp;omega) _).alloc (by simp;omega) _;have A0:Ah (((n7:World).alloc n9).alloc n8) w n10:=(((Ah.new w _).alloc _).alloc _).alloc _;have P0:Ah (((n7:World).alloc n9).alloc n8) (w.heap.size+1) n11:=by have:=((Ah.new (w.alloc n10) n11).alloc n9).alloc n8;simpa using this
 have R0:Ah (((n7:World).alloc n9).alloc n8) (w.heap.size+1+1) n9:=by have:=(Ah.new n7 n9).alloc n8;simpa using this
 have X0:Ah (((n7:World).alloc n9).alloc n8) (w.heap.size+1+1+1) n8:=by have:=Ah.new ((n7:World).alloc n9) n8;simpa using this
 have HS:=hid (st.below b0);have HB:=hid b0;have ST:=hid st;have HA:=hid A0;have HP:=hid P0;have HR:=hid R0;have HX:=hid X0;have EX:=hid hX;have i0:(0:Int)<=(t:Int):=by omega
 have i1:(t:Int)<(lt.length:Int):=by omega
 have w1_:IntKind.i64.wrap (1000*X.id)=1000*X.id:=by rw[IntKind.wrap_i64];omega
 have w2_:IntKind.i64.wrap (1000*X.id+X.made)=1000*X.id+X.made:=by rw[IntKind.wrap_i64];omega
 have w3_:IntKind.i64.wrap (1000*X.id+X.made+1)=1000*X.id+X.made+1:=by rw[IntKind.wrap_i64];omega
 have w4_:IntKind.i64.wrap (X.made+1)=X.made+1:=by rw[IntKind.wrap_i64];omega
 obtain⟨x0,x1⟩:=HA.out.two;obtain⟨s0,s1,s2,s3,s4,s5,s6,s7,s8,s9⟩:=HP.out.jE;obtain⟨y0,y1,y2,y3,y4,y5,y6⟩:=HX.out.seven;obtain⟨r0,r1⟩:=HR.out.two;have rf:=HR.out.jC;clear CC CW b3 b0 A0 P0 R0 X0 hX st;by_cases hf:X.made=30∨X.own.n=10
 ·have HF:=hid hf;have NB:Hid (Below w w (((n7:World).alloc n10).alloc n8)):=hid (((((Below.refl _ w).alloc (Nat.le_refl _) _).alloc (by simp) _).alloc (by simp;omega) _).alloc (by simp;omega) _);have NOF:Hid (Cg (((n7:World).alloc n10).alloc n8) B (.slice (some ⟨g,0,none⟩) lt.length ca) (.slice oa lo.length co) (lt.set t X) lo):=hid (by
   have e:=Ek ht;rw[<-EX.out]at e;rw[e];exact ST.out.below NB)
  have NR:Hid (Ah (((n7:World).alloc n10).alloc n8) (w.heap.size+1+1) n10):=hid (by have:=(Ah.new n7 n10).alloc n8;simpa using this);by_cases h3:X.made=30
  ·have h3':(X.made==30)=true:=(by simpa using h3);have h3'':decide (X.made=30)=true:=decide_eq_true h3;clear hf h3;go_enter func45,ntmps45
   go_wp2;exact bodyPost_ret (Ai _ _ (w.heap.size+1+1) 6 _ _ _ _ Tryz.results45 NR rfl rfl rfl) rfl ⟨X,5,_,rfl,NOF,NB.out.mono hB,.inl ⟨rfl,HF,rfl,rfl⟩⟩
  ·have h4:X.own.n=10:=hf.resolve_left h3;have h3':(X.made==30)=false:=(by simpa using h3);have h3'':decide (X.made=30)=false:=decide_eq_false h3;have h4':(X.own.n:Int)=10:=(by omega);have H4:=hid h4;clear hf h3 h4;go_enter func45,ntmps45
   go_wp2;exact bodyPost_ret (Ai _ _ (w.heap.size+1+1) 6 _ _ _ _ Tryz.results45 NR rfl rfl rfl) rfl ⟨X,5,_,rfl,NOF,NB.out.mono hB,.inl ⟨rfl,HF,rfl,rfl⟩⟩
 ·have h3:¬X.made=30:=fun h=>hf (.inl h);have h4:¬X.own.n=10:=fun h=>hf (.inr h);have h3':(X.made==30)=false:=by simpa using h3
  have h3'':decide (X.made=30)=false:=decide_eq_false h3;have h4':¬(X.own.n:Int)=10:=by omega
  have HF:=hid hf;have KB:=hid HS.out;have CC:=(KB.out.jJ ht).1;have c0:=CC.c0;have c1:=CC.c1;have c2:=CC.c2;have c3:=CC.c3;have c4:=CC.c4;have c5:=CC.c5;have c6:=CC.c6;have GF:=hid (KB.out.setMade (m:=X.made+1) ht EX);have gf:=GF.out.2.1.choose_spec.jC;have ng1:¬g=w.heap.size:=by omega
  have ng2:¬g=w.heap.size+1:=by omega
  have ng3:¬g=w.heap.size+1+1:=by omega
  have ng4:¬g=w.heap.size+1+1+1:=by omega
  clear hf CC h3 h4;go_enter func45,ntmps45
  go_wp2_with fail
  have A7:=hid (HA.out.other (Q:=g) ng1 (i:=t*7+6) (.int .i64 (X.made+1)));have P7:=hid (HP.out.other (Q:=g) ng2 (i:=t*7+6) (.int .i64 (X.made+1)));have R7:=hid (HR.out.other (Q:=g) ng3 (i:=t*7+6) (.int .i64 (X.made+1)));have X7:=hid (HX.out.other (Q:=g) ng4 (i:=t*7+6) (.int .i64 (X.made+1)));have n12:No (.cells #[X.id,X.b1,.slice X.c1.a X.c1.n X.c1.k,X.b2,.slice X.c2.a X.c2.n X.c2.k,.slice X.own.a X.own.n X.own.k,X.made] 86):=⟨⟩;have L7:Hid (Below B w ((((n7:World).alloc n9).alloc n12).setCell ⟨g,t*7+6,none⟩ (.int .i64 (X.made+1)))):=hid ((HB.out.mono hB).setCell (by dsimp only;exact GF.out.2.2) _);have S7:Hid (w.heap.size<=((((n7:World).alloc n9).alloc n12).setCell ⟨g,t*7+6,none⟩ (.int .i64 (X.made+1))).heap.size):=hid (by rw[nblk_setCell];exact HB.out.size);have XI:Hid (X.own.at ((((n7:World).alloc n9).alloc n12).setCell ⟨g,t*7+6,none⟩ (.int .i64 (X.made+1)))):=hid (((XN.out.1.keeps (Cp.of_below HB).l).keeps (AF (i:=t*7+6) GF.out.2.1.choose_spec (by decide) (.int .i64 (X.made+1)))).at.2.2);have K7:=hid GF.out.1;have gB:=GF.out.2.2;clear gf GF KB HA HP HR HX HS c0 c1 c2 c3 c4 c5 c6 x0 x1 s0 s1 s2 s3 s4 s5 s6 s7 s8 s9 r0 r1 rf y0 y1 y2 y3 y4 y5 y6 q0 q1 q2 q3 q4 q5 q6 HB;generalize (((n7:World).alloc n9).alloc n12).setCell ⟨g,t*7+6,none⟩ (.int .i64 (X.made+1))=W7 at *;obtain⟨LS,eLS⟩:∃l,l=lt.set t (⟨X.id,X.b1,X.c1,X.b2,X.c2,X.own,X.made+1⟩:Ac):=⟨_,rfl⟩;rw[<-eLS]at K7;have el1:LS.length=lt.length:=by rw[eLS];simp
  have ht':t<LS.length:=by rw[el1];exact ht
  have EL:Hid ((⟨X.id,X.b1,X.c1,X.b2,X.c2,X.own,X.made+1⟩:Ac)=LS[t]/\∀y,LS.set t y=lt.set t y):=hid ⟨by simp only[eLS,List.getElem_set_self],fun y=>by rw[eLS,List.set_set]⟩;rw[<-el1]at K7;clear eLS;have BX:Hid (∀W,Below W7 W7 W->Ah W w (.cells #[.slice (some ⟨g,0,none⟩) lt.length ca,.slice oa lo.length co] 36)/\Ah W (w.heap.size+1) n11/\Ah W (w.heap.size+1+1) n9/\Ah W (w.heap.size+1+1+1) (.cells #[X.id,X.b1,.slice X.c1.a X.c1.n X.c1.k,X.b2,.slice X.c2.a X.c2.n X.c2.k,.slice X.own.a X.own.n X.own.k,X.made] 86)/\Cg W B (.slice (some ⟨g,0,none⟩) LS.length ca) (.slice oa lo.length co) LS lo):=hid (fun W hW=>⟨A7.out.below hW,P7.out.below hW,R7.out.below hW,X7.out.below hW,K7.out.below hW⟩);have LB:Hid (∀W,Below W7 W7 W->Below B w W):=hid (fun W hW=>L7.out.trans (hW.mono (Nat.le_trans hB S7)));have V0:=hid (Below.refl W7 W7);have D0:=hid (AW V0);have IA:Hid (∀W,Below W7 W7 W->X.own.at W):=hid (fun W hW=>XI.out.below hW);have EG:Hid (∀args w,(callFunc 84 args).run prog w= .ok (.enter 84 args) w):=hid (enters_of func84 (by kernel_rfl) rfl);obtain⟨N,eN⟩:∃l,l=Dh ((List.range X.own.n).map X.own.h) (Au X):=⟨_,rfl⟩;have PL:Hid (N.length<=1048576):=hid (by
   have h1:=JA ((List.range X.own.n).map X.own.h) (Au X);have h2:((List.range X.own.n).map X.own.h).length=X.own.n:=(by simp);rw[eN];omega)
  have CP:Hid (Calls prog 84 #[.slice X.own.a X.own.n X.own.k,.int .i64 (1000*X.id+X.made+1)] W7.drew fun e w'=>∃v,e= .returned v/\(∃va vc,v= .slice va N.length vc/\Ax w' W7.drew.heap.size (.slice va N.length vc) N/\Below W7.drew.heap.size W7.drew w')):=hid ((Px X.own (1000*X.id+X.made+1) W7.drew (IA _ D0) on1 XN.out.2).mono fun _ _ ⟨va,vc,e1,h1,h2⟩=>⟨_,e1,va,vc,by rw[eN];rfl,by rw[eN];exact h1,h2⟩);have EN:=hid eN;clear eN;clear A7 P7 R7 X7 XI L7;obtain⟨x0,x1⟩:=(BX _ D0).1.two;obtain⟨s0,s1,s2,s3,s4,s5,s6,s7,s8,s9⟩:=(BX _ D0).2.1.jE;obtain⟨y0,y1,y2,y3,y4,y5,y6⟩:=(BX _ D0).2.2.2.1.seven;go_region_law(first
   |(refine Ti (by rfl) 84 _ _ _ (by rfl) EG _ _ (by rfl) (by rfl) _ CP ?_;rintro v w8 ⟨va,vc,rfl,o8,b8⟩;have V8:=hid (Ae D0 b8);have O8:=hid o8;obtain⟨m0,m1⟩:=(BX _ V8).1.two;obtain⟨n0,n1,n2,n3,n4,n5,n6⟩:=(BX _ V8).2.2.2.1.seven;have KB:=hid (BX.out _ V8).2.2.2.2;have CC:=(KB.out.jJ ht').1;rw[<-EL.out.1]at CC;have ND:Hid (Av.new B w8 ⟨va,N.length,vc,AL N⟩):=hid ((O8.out.newL PL).low (Nat.le_trans hB (Nat.le_trans S7 D0.out.size)));have CQ:=hid (Da O8);have c5:=CC.c5;have GF:=hid (KB.out.setOwn (d:=⟨va,N.length,vc,AL N⟩) ht' EL.out.1 ND CQ);have gf:=GF.out.2.1.choose_spec.jC;clear o8 b8 CC))
  all_goals(
   have ng1':g≠w.heap.size:=ng1;have A8:=hid ((BX _ V8).1.other (Q:=g) ng1 (i:=t*7+5) (.slice va N.length vc));have R8:=hid ((BX _ V8).2.2.1.other (Q:=g) ng3 (i:=t*7+5) (.slice va N.length vc));have L8:Hid (Below B w (w8.setCell ⟨g,t*7+5,none⟩ (.slice va N.length vc))):=hid ((LB _ V8).setCell (by dsimp only;exact gB) _);have S8:Hid (w.heap.size<=(w8.setCell ⟨g,t*7+5,none⟩ (.slice va N.length vc)).heap.size):=hid (by rw[nblk_setCell];exact Nat.le_trans S7 V8.out.size);have K8:=hid GF.out.1;clear GF gf c5 KB ND CQ m0 m1 n0 n1 n2 n3 n4 n5 n6 x0 x1 s0 s1 s2 s3 s4 s5 s6 s7 s8 s9 y0 y1 y2 y3 y4 y5 y6;generalize w8.setCell ⟨g,t*7+5,none⟩ (.slice va N.length vc)=W8 at *;have D8:=hid (AW (Below.refl W8 W8));have BY:Hid (∀W,Below W8 W8 W->Ah W w (.cells #[.slice (some ⟨g,0,none⟩) lt.length ca,.slice oa lo.length co] 36)/\Ah W (w.heap.size+1+1) n9):=hid (fun W hW=>⟨A8.out.below hW,R8.out.below hW⟩);obtain⟨x0,x1⟩:=(BY _ D8).1.two;obtain⟨r0,r1⟩:=(BY _ D8).2.two;have rf:=(BY _ D8).2.jC;have EG9:Hid (∀args w,(callFunc 85 args).run prog w= .ok (.enter 85 args) w):=hid (enters_of func85 (by kernel_rfl) rfl);have CP9:Hid (Calls prog 85 #[.int .i64 (1000*X.id+X.made+1)] W8.drew fun e w'=>∃v,e= .returned v/\(v= .string ⟨(CY (Au X).toNat).toArray⟩/\Below W8.drew.heap.size W8.drew w')):=hid (by
    have e:(((Au X).toNat:Nat):Int)=1000*X.id+X.made+1:=(by unfold Au;omega);rw[<-e];exact(Kx _ _ (by unfold Au;omega)).mono fun _ _ ⟨e1,h1⟩=>⟨_,e1,rfl,h1⟩)
   go_wp2_with fail
   go_region_law(first
    |(refine Dy (by rfl) 85 _ _ (by rfl) EG9 _ (by rfl) _ CP9 ?_;rintro v w9 ⟨rfl,b9⟩;have V9:=hid (Ae D8 b9);obtain⟨m0,m1⟩:=(BY _ V9).1.two;obtain⟨z0,z1⟩:=(BY _ V9).2.two;have zf:=(BY _ V9).2.jC;clear b9))
   all_goals(
    go_wp2;refine bodyPost_ret (Ai _ _ (w.heap.size+1+1) 6 _ _ _ _ Tryz.results45 (((BY _ V9).2.jB (i:=0) _).jB (i:=1) _) rfl rfl rfl) rfl ⟨_,0,_,rfl,?_,?_,.inr ⟨rfl,HF,rfl,va,vc,by rw[<-EN.out]⟩⟩
    ·have k9:=((K8.out.below V9).set (BY _ V9).2 (.inl rfl) (i:=0) (.slice (some ⟨g,0,none⟩) lt.length ca)).set ((BY _ V9).2.jB (i:=0) _) (.inl rfl) (i:=1) (.slice oa lo.length co);rw[EL.out.2,el1]at k9;exact k9
    ·exact(((L8.out.trans (V9.out.mono (Nat.le_trans hB S8))).setCell (by dsimp only;omega) _).setCell (by dsimp only;omega) _)))
theorem DX.setP{wr:World}{B P:Nat}{s:Ak}{g ca q co:Nat}{lt:List Ac}{lo:List Ab}{t:Nat}{m:Value}(h:DX wr B P s g ca q co lt lo t m):P≠g/\P<wr.heap.size:=by
 refine⟨fun e=>?_,h.wk.lt⟩;have ht:=h.st.t;rcases ht.2 with⟨hv,_⟩|⟨g',cap,cur,hv,_,hgg,_⟩
 ·cases hv
 ·cases hv;have hw:=h.wk;unfold Ah at hw;rw[e,hgg]at hw;simp at hw
theorem DX.setMade{wr:World}{B P:Nat}{s:Ak}{g ca q co:Nat}{lt:List Ac}{lo:List Ab}{t:Nat}{m:Value}(h:DX wr B P s g ca q co lt lo t m){n:Int}(ht:t<lt.length){X:Ac}(hX:X=lt[t]):
 DX (wr.setCell ⟨g,t*7+6,none⟩ (.int .i64 n)) B P s g ca q co (lt.set t ⟨X.id,X.b1,X.c1,X.b2,X.c2,X.own,n⟩) lo t m/\B<=g/\∃cur,Ah wr g (.cells cur 86):=by
 obtain⟨k1,⟨cur,hc⟩,hg⟩:=h.st.setMade (m:=n) ht hX;have el:(lt.set t (⟨X.id,X.b1,X.c1,X.b2,X.c2,X.own,n⟩:Ac)).length=lt.length:=by simp
 have hn:X.cb.Nodup:=Cx (L:=lt.map Ac.cb) (t:=t) (by simp[ht,hX]) h.ap.c;have hd:X.own.bs.Nodup:=Cx (L:=lt.map fun x=>x.own.bs) (t:=t) (by simp[ht,hX]) h.ap.i;refine⟨⟨by rw[el];exact k1,h.ap.setT h.st ht (x:=⟨X.id,X.b1,X.c1,X.b2,X.c2,X.own,n⟩) hn (fun b hb=> .inl (by rw[<-hX];exact hb)) hd (fun b hb=> .inl (by rw[<-hX];exact hb)),by rw[el];exact h.wk.other (Ne.symm h.setP.1) _,h.lp⟩,hg,cur,hc⟩
theorem Uh(w:World)(B P:Nat)(s:Ak)(g ca q co:Nat)(lt:List Ac)(lo:List Ab)(t:Nat)(m:Value)(h:DX w B P s g ca q co lt lo t m)(ht:t<lt.length)(X:Ac)(hX:X=lt[t])(hi:1<=X.id/\X.id<=1000000)(hm:0<=X.made/\X.made<=1000000):
 Calls prog 130 #[.pointer (some ⟨P,0,none⟩)] w fun e w'=>e= .returned (.int .i64 (Au X))/\DX w' B P s g ca q co (lt.set t ⟨X.id,X.b1,X.c1,X.b2,X.c2,X.own,X.made+1⟩) lo t m/\Below B w w':=by
 obtain⟨CW,gl⟩:=h.st.jJ ht;rw[<-hX]at CW;have q0:w.cell? ⟨g,t*7,none⟩=some (.int .i64 X.id):=CW.c0;have q6:w.cell? ⟨g,t*7+6,none⟩=some (.int .i64 X.made):=CW.c6;obtain⟨_,_,_,c12,_⟩:=h.wk.work;obtain⟨S1,hg,cur,hcu⟩:=h.setMade (n:=X.made+1) ht hX;have ne:=h.setP;have gf:=hcu.jC;obtain⟨_,_,_,d12,_⟩:=S1.wk.work;have el:(lt.set t (⟨X.id,X.b1,X.c1,X.b2,X.c2,X.own,X.made+1⟩:Ac)).length=lt.length:=by simp
 obtain⟨CV,_⟩:=S1.st.jJ (t:=t) (by rw[el];exact ht);have eg:(lt.set t (⟨X.id,X.b1,X.c1,X.b2,X.c2,X.own,X.made+1⟩:Ac))[t]'(by rw[el];exact ht)=⟨X.id,X.b1,X.c1,X.b2,X.c2,X.own,X.made+1⟩:=by simp
 rw[eg]at CV;have r0:(w.setCell ⟨g,t*7+6,none⟩ (.int .i64 (X.made+1))).cell? ⟨g,t*7,none⟩=some (.int .i64 X.id):=CV.c0;have r6:(w.setCell ⟨g,t*7+6,none⟩ (.int .i64 (X.made+1))).cell? ⟨g,t*7+6,none⟩=some (.int .i64 (X.made+1)):=CV.c6;have w1_:IntKind.i64.wrap (1000*X.id)=1000*X.id:=by rw[IntKind.wrap_i64];omega
 have w3_:IntKind.i64.wrap (1000*X.id+(X.made+1))=1000*X.id+(X.made+1):=by rw[IntKind.wrap_i64];omega
 have w4_:IntKind.i64.wrap (X.made+1)=X.made+1:=by rw[IntKind.wrap_i64];omega
 have NC:Hid (Ending.returned (.int .i64 (1000*X.id+(X.made+1)))= .returned (.int .i64 (Au X))):=hid (CZ (by unfold Au;omega));have S:=hid S1;have BL:=hid (show Below B w (w.setCell ⟨g,t*7+6,none⟩ (.int .i64 (X.made+1))) from(Below.refl B w).setCell hg _);have n1:¬P=g:=ne.1;have n2:¬g=P:=Ne.symm ne.1;clear h CW CV S1 el eg hX ne;go_enter func130,ntmps130
 go_wp2_with fail
 have e0:(w.setCell ⟨g,t*7+6,none⟩ (.int .i64 (X.made+1))).drew.cell? ⟨g,t*7,none⟩=some (.int .i64 X.id):=r0;have e6:(w.setCell ⟨g,t*7+6,none⟩ (.int .i64 (X.made+1))).drew.cell? ⟨g,t*7+6,none⟩=some (.int .i64 (X.made+1)):=r6;have e12:(w.setCell ⟨g,t*7+6,none⟩ (.int .i64 (X.made+1))).drew.cell? ⟨P,12,none⟩=some (.pointer (some ⟨g,t*7,none⟩)):=d12;clear r0 r6 d12;have SD:=hid (S.out.below (Below.refl _ _).drew);have BD:=hid (show Below B w (w.setCell ⟨g,t*7+6,none⟩ (.int .i64 (X.made+1))).drew from BL.out.drew);go_region_law fail
 all_goals(
  go_wp2;go_ret;exact⟨NC,SD,BD⟩)
open Go.Extern.Stop Go.Stop Go.Extern
theorem Cl(c:Int)(u:TypeId)(v:Value)(w:World):
 Calls prog 53 #[.int .i64 c,.iface u v] w fun e w'=>e= .returned (.iface 63 (.pointer (some ⟨w,0,none⟩)))/\w'=w.alloc (.cells #[.int .i64 c,.iface u v] 68):=by
 go_enter func53,ntmps53
 go_wp2;go_ret;exact⟨rfl,rfl⟩
theorem Bi(u:TypeId)(v:Value)(w:World):
 Calls prog 138 #[.iface u v] w fun e w'=>e= .returned (.iface 63 (.pointer (some ⟨w,0,none⟩)))/\w'=w.alloc (.cells #[.int .i64 4,.iface u v] 68):=by
 go_enter func138,ntmps138
 go_wp2_with fail
 refine(Cl 4 u v w).mono ?_;rintro e w' ⟨rfl,rfl⟩;go_wp2;go_ret;exact⟨rfl,rfl⟩
theorem YL(t:Value)(w:World):Calls prog 25 #[.nilIface,t] w fun e w'=>e= .returned (.bool false)/\w'=w:=by
 go_enter func25,ntmps25
 go_wp2;go_ret;exact⟨rfl,rfl⟩
theorem YH(u:TypeId)(v:Value)(w:World):Calls prog 24 #[.nilIface,.iface u v] w fun e w'=>e= .returned (.bool false)/\w'=w:=by
 have hn:=run_eql_iface_nil_left (P:=prog) w u v underlying59;go_enter func24,ntmps24
 go_wp2;go_ret;exact⟨rfl,rfl⟩
theorem Si(v:Value)(w:World):(Extern.ReflectliteType.typeOf #[.iface 290 v]).run prog w= .ok (.iface 165 (.agg #[.pointer (some ⟨18,290,none⟩)])) w:=by kernel_rfl
theorem JM(w:World):((Extern.ReflectliteType.method fun t=>do Rtype.noPackHeld "Comparable" t;(fun a=>Value.bool a.comparable)<$>typeInfo t) #[.agg #[.pointer (some ⟨18,290,none⟩)]]).run prog w= .ok (.bool true) w:=by kernel_rfl
theorem I3(v:Value)(w:World):(Go.method 422 165 v "Comparable").run prog w= .ok (253,v) w:=by kernel_rfl
theorem XM:(prog.info? 290).map (·.comparable)=some true:=by kernel_rfl
theorem XY:(prog.info? 310).map (·.size)=some 1:=by kernel_rfl
theorem Xb(v:Value)(xT:TypeId)(w:World):(Instr.typeAssert (.iface 290 v) xT 167 true).run prog w= .ok (.tuple #[.nilIface,.bool false]) w:=run_typeAssert_lacksB underlying167 (by kernel_rfl) (by kernel_rfl) v xT w
theorem Mw(v:Value)(xT:TypeId)(w:World):(Instr.typeAssert (.iface 290 v) xT 170 true).run prog w= .ok (.tuple #[.nilIface,.bool false]) w:=run_typeAssert_lacksB underlying170 (by kernel_rfl) (by kernel_rfl) v xT w
theorem Le(v:Value)(xT:TypeId)(w:World):(Instr.typeAssert (.iface 290 v) xT 171 true).run prog w= .ok (.tuple #[.nilIface,.bool false]) w:=run_typeAssert_lacksB underlying171 (by kernel_rfl) (by kernel_rfl) v xT w
theorem WQ(v:Value)(xT:TypeId)(w:World):(Instr.typeAssert (.iface 63 v) xT 167 true).run prog w= .ok (.tuple #[.nilIface,.bool false]) w:=run_typeAssert_lacksB underlying167 (by kernel_rfl) (by kernel_rfl) v xT w
theorem KZ(v:Value)(xT:TypeId)(w:World):(Instr.typeAssert (.iface 63 v) xT 170 true).run prog w= .ok (.tuple #[.iface 63 v,.bool true]) w:=run_typeAssert_hasB underlying170 (by kernel_rfl) v xT w
theorem PQ(v:Value)(w:World):(Go.method 422 63 v "Unwrap").run prog w= .ok (247,v) w:=by kernel_rfl
theorem ZF(r:Nat)(c:Int)(b:Addr)(w:World)(hr:Ah w r (.cells #[.int .i64 c,.iface 290 (.pointer (some b))] 68)):
 Calls prog 24 #[.iface 63 (.pointer (some ⟨r,0,none⟩)),.iface 290 (.pointer (some b))] w fun e w'=>e= .returned (.bool true)/\w'=w:=by
 obtain⟨i,hi,hcmp⟩:=Option.map_eq_some_iff.1 XM;obtain⟨j,hj,hjs⟩:=Option.map_eq_some_iff.1 XY;have h8:=@run_callFunc_extern prog 58 _ Extern.ReflectliteType.typeOf func58 (by kernel_rfl) (by kernel_rfl) (by kernel_rfl) (by kernel_rfl);have h32:=@run_callFunc_extern prog 253 _ (Extern.ReflectliteType.method fun t=>do Rtype.noPackHeld "Comparable" t;pure (.bool (<-typeInfo t).comparable)) func253 (by kernel_rfl) (by kernel_rfl) (by kernel_rfl) (by kernel_rfl);have tT:=Si;have cT:=JM;have mR:=I3;have nE:=Xb;have uE:=Mw;have vE:=Le;have nW:=WQ;have uW:=KZ;have mU:=PQ;obtain⟨q0,q1⟩:=hr.two;have heq:=run_eql_iface_ptr_same (P:=prog) w b underlying59 underlying290 hi hcmp hj;have hty:=run_eql_iface_types (P:=prog) 63 290 (.pointer (some ⟨r,0,none⟩)) (.pointer (some b)) underlying59 (by decide) w;go_enter func24,ntmps24
 go_wp2;refine wp_loop_rounds 2 ?_;rw[rounds_succ];go_wp2;rw[rounds_succ];go_wp2;go_ret;exact⟨rfl,rfl⟩
theorem ZC(r:Nat)(c:Int)(a b:Addr)(ca cb:Array Value)(ta tb:TypeId)(w:World)(hr:Ah w r (.cells #[.int .i64 c,.iface 290 (.pointer (some a))] 68))(hne:a≠b)(ha:w.heap[a.block]? =some (.cells ca ta (0,0)))(hb:w.heap[b.block]? =some (.cells cb tb (0,0))):
 Calls prog 24 #[.iface 63 (.pointer (some ⟨r,0,none⟩)),.iface 290 (.pointer (some b))] w fun e w'=>e= .returned (.bool false)/\w'=w:=by
 obtain⟨i,hi,hcmp⟩:=Option.map_eq_some_iff.1 XM;obtain⟨j,hj,hjs⟩:=Option.map_eq_some_iff.1 XY;have h8:=@run_callFunc_extern prog 58 _ Extern.ReflectliteType.typeOf func58 (by kernel_rfl) (by kernel_rfl) (by kernel_rfl) (by kernel_rfl);have h32:=@run_callFunc_extern prog 253 _ (Extern.ReflectliteType.method fun t=>do Rtype.noPackHeld "Comparable" t;pure (.bool (<-typeInfo t).comparable)) func253 (by kernel_rfl) (by kernel_rfl) (by kernel_rfl) (by kernel_rfl);have tT:=Si;have cT:=JM;have mR:=I3;have nE:=Xb;have uE:=Mw;have vE:=Le;have nW:=WQ;have uW:=KZ;have mU:=PQ;obtain⟨q0,q1⟩:=hr.two;have heq:=run_eql_iface_ptr_other (P:=prog) w underlying59 underlying290 hi hcmp hj (by rw[hjs];decide) hne ha hb;have hty:=run_eql_iface_types (P:=prog) 63 290 (.pointer (some ⟨r,0,none⟩)) (.pointer (some b)) underlying59 (by decide) w;go_enter func24,ntmps24
 go_wp2;refine wp_loop_rounds 2 ?_;rw[rounds_succ];go_wp2;rw[rounds_succ];go_wp2;go_ret;exact⟨rfl,rfl⟩
theorem JB(base:Int)(a:Option Addr)(n cap:Nat)(f g:Nat->Int)(w:World)(hn:n<=1048576)(hc:An w a n f g)
 (hw:∀i,i<n->(Lit.int .i64 (f i)).wf=true/\(Lit.int .i64 (g i)).wf=true):
 Calls prog 182 #[.agg #[.int .i64 base,.slice a n cap]] w fun e w'=>∃c,e= .returned (.agg #[.int .i64 base,.map (some c)])/\w.heap.size<=c/\Bh w' c n (look f g n)/\w.heap.size+3<w'.heap.size/\Below w.heap.size w w':=by
 have hmm:=@run_makeMap prog;go_enter func182,ntmps182
 go_wp2;go_loopw [13] (fun i wr=>∃k:Nat,k<=n/\i= .int .i64 k/\Bh wr (w.heap.size+1+1) k (look f g k)/\wr.cell? ⟨w.heap.size+1+1+1,0,none⟩=some (.int .i64 base)/\wr.cell? ⟨w.heap.size+1+1+1,1,none⟩=some (.map (some (w.heap.size+1+1)))/\
  wr.cell? ⟨w.heap.size+1,0,none⟩=some (.int .i64 0)/\wr.cell? ⟨w.heap.size+1,1,none⟩=some (.map none)/\wr.frozen? ⟨w.heap.size+1,0,none⟩=false/\wr.frozen? ⟨w.heap.size+1,1,none⟩=false/\w.heap.size+1+1+1<wr.heap.size/\Below w.heap.size w wr) (fun i _=>n-(intOf i).toNat)
 case atStart=>
  refine⟨0,Nat.zero_le _,rfl,?_,by go_simp,by go_simp,by go_simp,by go_simp,by go_simp,by go_simp,by simp,?_⟩
  ·have:=(Bh.made ((w.alloc (.cells #[.int .i64 base,.slice a n cap] 42)).alloc (.cells #[.int .i64 0,.map none] 240))).alloc (.cells #[.int .i64 base,.map (some (w.heap.size+1+1))] 240);simpa[look]using this
  ·exact((((Below.refl _ w).alloc (Nat.le_refl _) _).alloc (by simp) _).alloc (by simp;omega) _).alloc (by simp;omega) _
 case round=>
  obtain⟨k,hk,rfl,⟨D,hown,hD,hm⟩,x0,x1,y0,y1,f0,f1,hz,hB⟩:=hrel;clear hmm;by_cases hlt':k<n
  ·obtain⟨b,off,rfl,hlt,hcc⟩:=hc (by omega);obtain⟨h1,h2⟩:=hcc k hlt';obtain⟨w1,w2⟩:=hw k hlt';have g1:wr.cell? ⟨b,off+k*2,none⟩=some (.int .i64 (f k)):=(hB.cell (p:=⟨b,_,none⟩) hlt).trans h1;have g2:wr.cell? ⟨b,off+k*2+1,none⟩=some (.int .i64 (g k)):=(hB.cell (p:=⟨b,_,none⟩) hlt).trans h2;clear h1 h2 hcc hc;have hkey:keyOf prog 2 (.int .i64 (f k))=some (.int .i64 (f k)):=keyOf_int_mk underlying2 w1;have W2:Hid ((Lit.int .i64 (g k)).wf=true):=w2;clear w1 w2;go_wp2_with(at_mapUpdate;refine wpList_mapUpdate_own _ rfl _ _ _ 184 rfl 2 2 GP underlying184 _ (w.heap.size+1+1) k _ rfl (hown.alloc _) (by unfold maxLen;omega) _ _ _ rfl rfl hkey _ [] (plainElem_int underlying2 W2.out) ?_;intro w1 hown1 hgrow1)
   have hm1:=Bh.put (k:=f k) (v:=g k) hD hm;rw[Np]at hm1;have s1:w.heap.size+1+1+1<(wr.alloc (.cells #[.int .i64 (f k),.int .i64 (g k)] 145)).heap.size:=(by simp;omega);go_roundw;case rel=>
    refine⟨k+1,by omega,by go_num,⟨_,hown1,hm1.1,hm1.2⟩,?_,?_,?_,?_,?_,?_,Nat.lt_of_lt_of_le s1 hgrow1.size,?_⟩
    ·exact(Hp hgrow1 s1 (by omega)).trans (((Below.refl _ wr).alloc (Nat.le_refl _) _).cell (p:=⟨_,_,none⟩) hz |>.trans x0)
    ·exact(Hp hgrow1 s1 (by omega)).trans (((Below.refl _ wr).alloc (Nat.le_refl _) _).cell (p:=⟨_,_,none⟩) hz |>.trans x1)
    ·exact(Hp hgrow1 (by omega) (by omega)).trans (((Below.refl _ wr).alloc (Nat.le_refl _) _).cell (p:=⟨_,_,none⟩) (by dsimp only;omega) |>.trans y0)
    ·exact(Hp hgrow1 (by omega) (by omega)).trans (((Below.refl _ wr).alloc (Nat.le_refl _) _).cell (p:=⟨_,_,none⟩) (by dsimp only;omega) |>.trans y1)
    ·exact(J8 hgrow1 (by omega) (by omega)).trans (((Below.refl _ wr).alloc (Nat.le_refl _) _).frozen (p:=⟨_,_,none⟩) (by dsimp only;omega) |>.trans f0)
    ·exact(J8 hgrow1 (by omega) (by omega)).trans (((Below.refl _ wr).alloc (Nat.le_refl _) _).frozen (p:=⟨_,_,none⟩) (by dsimp only;omega) |>.trans f1)
    ·exact(hB.alloc (by omega) _).grown hgrow1 (by omega) (fun j hj=>by cases hj;omega)
   case measure=>simp[intOf];omega
  ·clear hc;have e:k=n:=(by omega);have HM:Bh wr (w.heap.size+1+1) n (look f g n):=(by rw[<-e];exact⟨D,hown,hD,hm⟩);clear hown hD hm e;go_wp2;refine bodyPost_ret (v:= .agg #[.int .i64 base,.map (some (w.heap.size+1+1))]) (by simp[results,Tryz.results182,go_sem, *]) rfl ⟨_,rfl,by omega,?_,?_,?_⟩
   ·exact(HM.setCell (by dsimp only;omega) _).setCell (by dsimp only;omega) _
   ·simpa using hz
   ·exact(hB.setCell (by dsimp only;omega) _).setCell (by dsimp only;omega) _
open Go.Sort
open Go.WideShapes (add_plain)
theorem Tryz.sortsA(m:Nat):AnyZI.SortsIn prog Tryz.sortedA_ren Fence.wide m:=
 ⟨fun blk off cap ss W hH hblk hsz=>callsIn_wide.2 (AnyM.slices_Sort_int Tryz.sortA blk off cap ss W hH hblk hsz),
  fun p cap W=>callsIn_wide.2 (AnyM.slices_Sort_int_none Tryz.sortA p cap W)⟩
theorem Xv(mb:Option Nat)(W:World):Calls prog 209 #[.map mb] W fun e w'=>e= .returned (.func (.func 222) #[] #[.pointer (some ⟨W,0,none⟩)])/\w'=W.alloc (.cells #[.map mb] 184):=
 (callsIn_wide (n:=5)).1 (AnyZI.keys_in Tryz.keysA Fence.wide 5 trivial rfl mb W)
theorem Sk{w:World}{b n:Nat}{D:DataW Unit}(hown:w.ownsMap prog 2 (plainElem prog 2) b n D):(intKeys D).Nodup/\∀x,x∈intKeys D↔Maps.has D (.int .i64 x)=true:=by
 obtain⟨es,hD,hpw,_⟩:=hown.entries GP;obtain⟨es',hD',hko⟩:=hown.keysOf;obtain rfl:es=es':=by rw[hD]at hD';simpa using hD'
 subst hD;have hk:∀p∈es,∃x,p.1= .int .i64 x:=fun p hp=>by
  obtain⟨v,hv⟩:=hko p hp;obtain⟨x,_,hx,_⟩:=Maps.keyOf_i64 underlying2 hv;exact⟨x,hx⟩
 constructor
 ·show(es.map fun p=>Go.intOf p.1).Nodup;refine List.pairwise_map.2 (hpw.imp_of_mem fun{p q} hp' hq' hne e=>hne ?_);obtain⟨a,ha⟩:=hk p hp';obtain⟨b,hb⟩:=hk q hq';rw[ha,hb]at e ⊢;exact congrArg _ e
 ·intro x;rw[has_eq,List.any_eq_true];show x∈es.map (fun p=>Go.intOf p.1)↔_;rw[List.mem_map];constructor
  ·rintro⟨p,hp',rfl⟩;obtain⟨a,ha⟩:=hk p hp';exact⟨p,hp',by rw[ha];simp[Lit.sameKey,Go.intOf]⟩
  ·rintro⟨p,hp',hs⟩;obtain⟨a,ha⟩:=hk p hp';rw[ha]at hs;exact⟨p,hp',by rw[ha];simpa[Lit.sameKey,Go.intOf]using hs⟩
def nth(l:List Int)(i:Nat):Int:=l.getD i 0
theorem Qq{l:List Int}(hs:l.Pairwise (fun a b=>a<=b))(hn:l.Nodup):∀j,j<l.length->∀i,i<j->nth l i<nth l j:=by
 intro j hj i hi;have hp:=hs.and hn;have:=List.pairwise_iff_getElem.1 hp i j (by omega) hj hi;simp only[nth,List.getD_eq_getElem?_getD,List.getElem?_eq_getElem hj,List.getElem?_eq_getElem (show i<l.length by omega),Option.getD_some];have h1:=this.1;have h2:=this.2;omega
theorem AJ.of_owns{w:World}{B n:Nat}{v:Value}{l:List Int}(h:w.ownsRow B 2 1 v n (l.map Go.encZ)):l.length=n/\∃a c,v= .slice a n c/\AJ w a n (nth l)/\∀x,a=some x->B<=x.block:=by
 have hl:l.length=n:=by have:=h.1;simpa using this
 refine⟨hl,?_⟩;rcases h.2 with⟨rfl,rfl⟩|⟨gb,cap,cur,rfl,_⟩
 ·exact⟨_,_,rfl,(fun h0=>by omega),fun x e=>by cases e⟩
 ·refine⟨_,_,rfl,fun h0=>?_,fun x e=>by cases e;exact(World.ownsRow.lt h gb rfl).1⟩;have hc:=World.ownsRow.cells h (g:=gb) rfl;have hlt:=(World.ownsRow.lt h gb rfl).2;refine⟨gb,0,rfl,hlt,fun i hi=>?_⟩;have hi':i<l.length:=by omega
  have t:=hc i (Go.encZ l[i]) (by simp[hi']);rw[add_plain]at t;rw[t];simp[nth,hi']
def IE(w:World)(b n:Nat)(p:Int->Bool):Prop:=
 ∃D:DataW Unit,w.ownsMap prog 2 (plainElem prog 2) b n D/\∀x,Maps.has D (.int .i64 x)=p x
theorem Bh.keys{w:World}{b n:Nat}{m:Int->Option Int}(h:Bh w b n m):IE w b n (fun x=>(m x).isSome):=by
 obtain⟨D,h1,_,h3⟩:=h;exact⟨D,h1,fun x=>(h3 x).1⟩
theorem Uo(b nn:Nat)(p:Int->Bool)(w:World)(hm:IE w b nn p)(hnn:nn<=4194304):
 Calls prog 208 #[.func (.func 222) #[] #[.pointer (some ⟨w,0,none⟩)]] (w.alloc (.cells #[.map (some b)] 184)) fun e w'=>∃(a:Option Addr) (n cap:Nat) (h:Nat->Int),e= .returned (.slice a n cap)/\n<=nn/\
  AJ w' a n h/\(∀x,(∃i,i<n/\h i=x)↔p x=true)/\(∀j,j<n->∀i,i<j->h i<h j)/\(∀i,i<n->(Lit.int .i64 (h i)).wf=true)/\(∀x,a=some x->w.heap.size<=x.block)/\Below w w w':=by
 obtain⟨D,hown,hall⟩:=hm;have hbl:=hown.lt;have hsz:=hown.size_le;have hseq:SeqGives Fence.wide 2 prog 222 #[.pointer (some ⟨w,0,none⟩)] Go.encZ (fun ss=>ss.Perm (intKeys D)) (Maps.size D) (w.alloc (.cells #[.map (some b)] 184)):=
  AnyZI.keys_gives (ρ:=Tryz.keysA_ren) {Tryz.keysA with} Fence.wide _ trivial rfl (by omega) w b nn D _ (by simp) (by simp) (by
   obtain⟨es,clock,hb,Ft,hs,hD⟩:=hown;exact⟨es,clock,(Below.heap_alloc _ _ b hbl).trans hb,Ft,hs,hD⟩)
 have cS:=AnyZI.sorted_in Tryz.sortedA Fence.wide 5 trivial trivial trivial trivial rfl (by omega) (Tryz.sortsA _) (enters_of func157 (by kernel_rfl) rfl) 222 #[.pointer (some ⟨w,0,none⟩)] trivial (enters_of func222 (by kernel_rfl) rfl) _ _ (by unfold maxLen;omega) (by omega) _ hseq;change CallsIn _ _ prog 208 _ _ _ at cS;refine((callsIn_wide (n:=5)).1 cS).mono ?_;rintro e w' ⟨v,ss,rfl,hp,hrow,_,hb⟩;obtain⟨hnd,hmem⟩:=Sk hown;have hq:(ss.mergeSort (fun x y=>decide (x<=y))).Perm (intKeys D):=(List.mergeSort_perm ss _).trans hp;obtain⟨hlen,a,c,rfl,hat,hnew⟩:=AJ.of_owns (B:=_) hrow;have hle:ss.length<=nn:=by
  have h1:=hp.length_eq;have h2:(intKeys D).length=Maps.size D:=by
   obtain⟨es,rfl,_⟩:=hown.keysOf;simp[intKeys,Maps.size]
  omega
 have tr:∀a b c:Int,decide (a<=b)=true->decide (b<=c)=true->decide (a<=c)=true:=fun a b c h1 h2=>by simp only[decide_eq_true_eq]at *;omega
 have tO:∀a b:Int,(decide (a<=b)||decide (b<=a))=true:=fun a b=>by simp only[Bool.or_eq_true,decide_eq_true_eq];omega
 have hsorted:=(List.pairwise_mergeSort (le:=fun x y=>decide (x<=y)) tr tO ss).imp (fun{a b} h=>by simpa using h:∀{a b:Int},_->a<=b);refine⟨a,ss.length,c,nth (ss.mergeSort (fun x y=>decide (x<=y))),rfl,hle,hat,fun x=>?_,?_,fun i hi=>?_,fun x e=>by have:=hnew x e;simp at this;omega,?_⟩
 ·rw[<-hall x,<-hmem x,<-hq.mem_iff];constructor
  ·rintro⟨i,hi,rfl⟩;have hi':i<(ss.mergeSort (fun x y=>decide (x<=y))).length:=(by omega);simp only[nth,List.getD_eq_getElem?_getD,List.getElem?_eq_getElem hi',Option.getD_some];exact List.getElem_mem hi'
  ·intro hx;obtain⟨i,hi,rfl⟩:=List.mem_iff_getElem.1 hx;exact⟨i,by omega,by simp only[nth,List.getD_eq_getElem?_getD,List.getElem?_eq_getElem hi,Option.getD_some]⟩
 ·have:=Qq hsorted (hq.nodup_iff.2 hnd);rw[hlen]at this;exact this
 ·have hi':i<(ss.mergeSort (fun x y=>decide (x<=y))).length:=by omega
  refine intKeys_wf hown underlying2 _ (hq.mem_iff.1 ?_);simp only[nth,List.getD_eq_getElem?_getD,List.getElem?_eq_getElem hi',Option.getD_some];exact List.getElem_mem hi'
 ·exact((Below.refl _ w).alloc (Nat.le_refl _) _).trans (hb.mono (by simp))
theorem Wv(b nn:Nat)(m:Int->Option Int)(w:World)(hm:Bh w b nn m):
 Calls prog 206 #[.map (some b)] w fun e w'=>e= .returned (.map (some w))/\IE w' w nn (fun x=>(m x).isSome)/\Below w w w':=by
 obtain⟨D,hown,hall⟩:=hm.keys;have hcon:=AnyW.maps_Clone_owns Tryz.cloneA 2 (plainElem prog 2) b nn D w hown;change Calls prog 206 _ _ _ at hcon;refine hcon.mono ?_;rintro e w' ⟨rfl,h1,_,hB⟩;exact⟨rfl,⟨D,h1,hall⟩,hB⟩
theorem VH{w w':World}{b n b' n':Nat}{D D':DataW Unit}(h:w.ownsMap prog 2 (plainElem prog 2) b n D)(h':w'.ownsMap prog 2 (plainElem prog 2) b' n' D')(k:Lit):
 Maps.has (Lib.mergeD D D') k=(Maps.has D k||Maps.has D' k):=by
 obtain⟨es,rfl,_,hk⟩:=h'.entries GP;exact has_foldPut k es D (h.tidy GP).isMap hk
theorem Xo(bd bs nd ns:Nat)(p q:Int->Bool)(w:World)(hd:IE w bd nd p)(hs:IE w bs ns q)(hne:bd≠bs)(hroom:nd+ns<=4194304):
 Calls prog 207 #[.map (some bd),.map (some bs)] w fun e w'=>e= .returned (.tuple #[])/\IE w' bd (nd+ns) (fun x=>p x||q x)/\w.grownBy w' (some bd):=by
 obtain⟨D,hD,hp⟩:=hd;obtain⟨E,hE,hq⟩:=hs;have hsz:=hE.size_le;have hcon:=AnyX.maps_Copy Tryz.copyA GP (plainElem prog 2) bd bs nd ns D E w hD hE hne (by unfold maxLen;omega);change Calls prog 207 _ _ _ at hcon;refine hcon.mono ?_;rintro e w' ⟨rfl,h1,_,hg⟩;exact⟨rfl,⟨_,h1.mono (by omega),fun x=>by rw[VH hD hE,hp,hq]⟩,hg⟩
theorem RJ(b1:Int)(c1 n1:Nat)(m1:Int->Option Int)(b2:Int)(c2 n2:Nat)(m2:Int->Option Int)(w:World)(h1:Bh w c1 n1 m1)(h2:Bh w c2 n2 m2)(hn:n1+n2<=4194304):
 Calls prog 183 #[.agg #[.int .i64 b1,.map (some c1)],.agg #[.int .i64 b2,.map (some c2)]] w fun e w'=>∃(a:Option Addr) (n cap:Nat) (h:Nat->Int),e= .returned (.slice a n cap)/\n<=n1+n2/\
  AJ w' a n h/\(∀x,(∃i,i<n/\h i=x)↔((m1 x).isSome||(m2 x).isSome)=true)/\(∀j,j<n->∀i,i<j->h i<h j)/\(∀i,i<n->(Lit.int .i64 (h i)).wf=true)/\Below w w w':=by
 have hb0:=((Below.refl _ w).alloc (Nat.le_refl _) (.cells #[.int .i64 b1,.map (some c1)] 240)).alloc (by simp) (.cells #[.int .i64 b2,.map (some c2)] 240);have lt2:=h2.lt;have e1:=h1.below hb0;go_enter func183,ntmps183
 go_wp2_with fail
 refine(Wv _ _ _ _ e1).mono ?_;rintro e w1 ⟨rfl,k1,hb1⟩;obtain⟨q1,_⟩:=DY hb1;have z1:w.heap.size+1+1<=w1.heap.size:=by have:=hb1.size;simpa using this
 have B1:Below w w w1:=hb0.trans (hb1.mono (by simp;omega));have e2:=(h2.below B1).keys;simp at k1;go_wp2_with fail
 refine(Xo _ _ _ _ _ _ _ k1 e2 (by omega) hn).mono ?_;rintro e w2 ⟨rfl,k2,hg2⟩;have G2:Below (w.heap.size+1+1) w1 w2:=(Below.refl _ _).grown hg2 z1 (fun k e=>by cases e;exact Nat.le_refl _);have B2:Below w w w2:=B1.trans (G2.mono (by omega));clear q1;go_wp2_with fail
 refine(Xv _ _).mono ?_;rintro e w3 ⟨rfl,rfl⟩;go_wp2_with fail
 refine(Uo _ _ _ _ k2 hn).mono ?_;rintro e w4 ⟨a,n,cap,h,rfl,hle,hat,hmem,hris,hwf,_,hb4⟩;go_wp2;go_ret;exact⟨a,n,cap,h,rfl,hle,hat,hmem,hris,hwf,B2.trans (hb4.mono B2.size)⟩
theorem KY{f g:Nat->Int}{n:Nat}{x:Int}(h:(look f g n x).isSome=true):∃i,i<n/\f i=x:=by
 induction n with
 |zero=>simp[look]at h
 |succ n ih=>
  simp only[look]at h;by_cases e:f n=x
  ·exact⟨n,by omega,e⟩
  ·rw[if_neg e]at h;obtain⟨i,hi,e⟩:=ih h;exact⟨i,by omega,e⟩
theorem QP(base:Int)(c:Nat)(n:Nat)(f g:Nat->Int)(x:Int)(w:World)(hm:Bh w c n (look f g n))(hx:(Lit.int .i64 x).wf=true):
 Calls prog 184 #[.agg #[.int .i64 base,.map (some c)],.int .i64 x] w fun e w'=>e= .returned (.int .i64 (DZ base n f g x))/\Below w w w':=Zs base c n (look f g n) x w hm hx
def Bz(W:World)(P:Nat)(x y:Value):Prop:=W.heap[P]? =some (.cells #[x,y] 240)
theorem Bz.new(W:World)(x y:Value):Bz (W.alloc (.cells #[x,y] 240)) W x y:=blk_alloc_new _ _
theorem Bz.lt{W:World}{P:Nat}{x y:Value}(h:Bz W P x y):P<W.heap.size:=(Array.getElem?_eq_some_iff.1 h).1
theorem Bz.alloc{W:World}{P:Nat}{x y:Value}(h:Bz W P x y)(o:Obj):Bz (W.alloc o) P x y:=(blk_alloc_lt _ _ _ h.lt).trans h
theorem Bz.drew{W:World}{P:Nat}{x y:Value}(h:Bz W P x y):Bz W.drew P x y:=h
theorem Bz.below{W W':World}{P:Nat}{x y:Value}(h:Bz W P x y)(hb:Below W W W'):Bz W' P x y:=(hb.block P h.lt).trans h
theorem Bz.other{W:World}{P:Nat}{x y:Value}(h:Bz W P x y){a:Addr}(hne:P≠a.block)(v:Value):Bz (W.setCell a v) P x y:=(blk_setCell_other _ _ _ _ hne).trans h
theorem Bz.set0{W:World}{P:Nat}{x y:Value}(h:Bz W P x y)(v:Value):Bz (W.setCell ⟨P,0,none⟩ v) P v y:=by
 unfold Bz at *;simp[World.setCell,Array.getElem?_modify,h]
theorem Bz.set1{W:World}{P:Nat}{x y:Value}(h:Bz W P x y)(v:Value):Bz (W.setCell ⟨P,1,none⟩ v) P x v:=by
 unfold Bz at *;simp[World.setCell,Array.getElem?_modify,h]
theorem Bz.cells{W:World}{P:Nat}{x y:Value}(h:Bz W P x y):W.cell? ⟨P,0,none⟩=some x/\W.cell? ⟨P,1,none⟩=some y:=by
 unfold Bz at h;simp[World.cell?,h]
theorem Bz.new'{W:World}{P:Nat}{x y:Value}(h:P=W.heap.size):Bz (W.alloc (.cells #[x,y] 240)) P x y:=by rw[h];exact Bz.new _ _ _
def Fp(W:World)(P:Nat):Prop:=∃x y,Bz W P x y
theorem Fp.new'{W:World}{P:Nat}{x y:Value}(h:P=W.heap.size):Fp (W.alloc (.cells #[x,y] 240)) P:=⟨x,y,Bz.new' h⟩
theorem Fp.alloc{W:World}{P:Nat}(h:Fp W P)(o:Obj):Fp (W.alloc o) P:=by obtain⟨x,y,h⟩:=h;exact⟨x,y,h.alloc o⟩
theorem Fp.drew{W:World}{P:Nat}(h:Fp W P):Fp W.drew P:=h
theorem Fp.below{W W':World}{P:Nat}(h:Fp W P)(hb:Below W W W'):Fp W' P:=by obtain⟨x,y,h⟩:=h;exact⟨x,y,h.below hb⟩
theorem Fp.other{W:World}{P:Nat}(h:Fp W P){a:Addr}(hne:P≠a.block)(v:Value):Fp (W.setCell a v) P:=by obtain⟨x,y,h⟩:=h;exact⟨x,y,h.other hne v⟩
theorem Bz.set01{W:World}{P:Nat}(h:Fp W P)(u v:Value):Bz ((W.setCell ⟨P,0,none⟩ u).setCell ⟨P,1,none⟩ v) P u v:=by obtain⟨x,y,h⟩:=h;exact(h.set0 u).set1 v
theorem cd{a b:Nat}(h:a+3<b):a<b/\a+1<b/\b≠a/\b≠a+1/\b+1≠a:=by omega
structure Bn(W W':World):Prop where
 size:W.heap.size<=W'.heap.size
 same:∀(k:Nat) (o:Obj),W.heap[k]? =some o->(o.isCells=true∨o.isWalk=true)->W'.heap[k]? =some o
theorem Bn.refl(W:World):Bn W W:=⟨Nat.le_refl _,fun _ _ h _=>h⟩
theorem Bn.trans{A B C:World}(h:Bn A B)(k:Bn B C):Bn A C:=
 ⟨Nat.le_trans h.size k.size,fun i o hi ho=>k.same i o (h.same i o hi ho) ho⟩
theorem Bn.book{w:World}(W:World)(l:Nat)(o o':Obj)(_:w.heap.size<=l)(h:W.heap[l]? =some o)(hc:o.isCells=false)(hw:o.isWalk=false):Bn W (W.putObj l o'):=
 ⟨by simp,fun k o'' hk ho=>by
   by_cases e:k=l
   ·subst e;rw[h]at hk;cases hk;rw[hc,hw]at ho;simp at ho
   ·exact(World.putObj_heap_other e).trans hk⟩
theorem Bn.of_below{W W':World}(h:Below W W W'):Bn W W':=
 ⟨h.size,fun k _ hk _=>(h.block k (Array.getElem?_eq_some_iff.1 hk).1).trans hk⟩
theorem Bn.cell{W W':World}(h:Bn W W'){a:Addr}{v:Value}(hv:W.cell? a=some v):W'.cell? a=some v:=by
 have hv':=hv;unfold World.cell? at hv;cases ho:W.heap[a.block]? with
 |none=>simp[ho]at hv
 |some o=>
  have hc:o.isCells=true:=by cases o<;>simp_all[Obj.isCells]
  have:=h.same _ _ ho (.inl hc);exact(World.cell?_of_block (this.trans ho.symm)).trans hv'
theorem Bn.map{W W':World}(h:Bn W W'){b n:Nat}{m:Int->Option Int}(hm:Bh W b n m):Bh W' b n m:=by
 have hm':=hm;obtain⟨D,⟨es,clock,hb,F,hs,hD⟩,r⟩:=hm;exact hm'.of_block ((h.same b _ hb (.inr rfl)).trans hb.symm)
theorem Gm{W W':World}(h:Below W W W'):W.grownBy W' none:=⟨h.os,h.tape,h.output,h.size,fun k hk _=>h.block k hk⟩
end Go.Proofs.YtmikapeeflcbfaaGreatDoor
