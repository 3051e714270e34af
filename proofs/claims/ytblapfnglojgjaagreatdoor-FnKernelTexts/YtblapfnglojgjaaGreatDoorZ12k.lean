import Derived.Test.YtblapfnglojgjaaGreatDoorZ11k
set_option maxRecDepth 100000
set_option maxHeartbeats 16000000
namespace Go.Proofs.YtblapfnglojgjaaGreatDoor
open Go Go.RowKit Go.Deep Go.Maps Go.BigFrame Go.Shelf Go.Proofs.Tryz
theorem UY{ops:Array Oper}{o:Oper}{a:Act}{w:World}{K:Act->World->Prop}{Q:Exit->Act->World->Prop}{E:Prop}(hgd:o.guard=none)(f:Nat)(x y:Operand)(ats:Array TypeId)
 (ho:o.op= .call {callee:= .value (.func f),args:=#[x,y],argTypes:=ats})(eg:∀args w,(callFunc f args).run prog w= .ok (.enter f args) w)(v0 v1:Value)(hv:a.eval x=v0)(hv1:a.eval y=v1)
 (R:Value->World->Prop)(hc:Calls prog f #[v0,v1] w fun e w'=>∃v,e= .returned v/\R v w')(h:∀v w',R v w'->K (a.put o.dst v) w'):
 if Region.wanted o (yielded ops a.tmps)=true then Oper.wp prog o a w K Q else E:=by
 have hw:Region.wanted o (yielded ops a.tmps)=true:=by simp[Region.wanted,hgd]
 rw[if_pos hw];have e:(execOp a.eval o).run prog w= .ok (.enter f #[v0,v1]) w:=by
  unfold execOp;simp only[ho,resolve,invoke,Sem.run_bind,List.map_toArray,List.map_cons,List.map_nil,hv,hv1];simp[go_sem,eg,Act.eval]
 unfold Oper.wp;rw[e,Oper.upon_enter];exact hc.mono fun e w' ⟨v,he,hr⟩=>by subst he;exact h v w' hr
theorem Cf.setMade{w:World}{B g ca:Nat}{vo:Value}{lt:List Af}{lo:List Ae}(h:Cf w B (.slice g lt.length ca) vo lt lo){t:Nat}{m:Int}(ht:t<lt.length){X:Af}(hX:X=lt[t]):
 Cf (w.setCell ⟨g,t*7+6,none⟩ (.int .i64 m)) B (.slice g lt.length ca) vo (lt.set t ⟨X.id,X.b1,X.c1,X.b2,X.c2,X.own,m⟩) lo/\(∃cur,Ai w g (.cells cur 47))/\B<=g:=by
 have hn:=h.tn _ (List.getElem_mem ht);have hc:=h.tc _ (List.getElem_mem ht);rw[<-hX]at hn hc;obtain⟨k1,hcur,hg⟩:=h.setT (x:=⟨X.id,X.b1,X.c1,X.b2,X.c2,X.own,m⟩) (u:= .int .i64 m) ht (i:=6) (by omega) (by rw[<-hX];rfl) hn hc;have el:(lt.set t (⟨X.id,X.b1,X.c1,X.b2,X.c2,X.own,m⟩:Af)).length=lt.length:=by simp
 rw[el]at k1;exact⟨k1,hcur,hg⟩
def Cc(X:Af):Int:=1000*X.id+X.made+1
theorem Wa(lt:List Af)(lo:List Ae)(g ca:Nat)(oa:Option Addr)(co B:Nat)(w:World)(st:Cf w B (.slice g lt.length ca) (.slice oa lo.length co) lt lo)(hB:B<=w.heap.size)(t:Nat)(ht:t<lt.length)(X:Af)(hX:X=lt[t])(xs:X.small)(s:Bd)(hk:s.kind=1)(hi:1<=X.id/\X.id<=9)(hm:0<=X.made/\X.made<=30)(ho:X.own.n<=10):
 Calls prog 88 #[.agg #[.slice g lt.length ca,.slice oa lo.length co],.int .i64 t,.agg s] w fun e w'=>∃(x:Af) (c:Int) (tx:ByteArray),e= .returned (.tuple #[.agg #[.slice g lt.length ca,.slice oa lo.length co],.int .i64 c,.string tx])/\Cf w' B (.slice g lt.length ca) (.slice oa lo.length co) (lt.set t x) lo/\Below B w w'/\((c=5/\(X.made=30∨X.own.n=10)/\x=X/\tx=⟨#[]⟩)∨(c=0/\¬(X.made=30∨X.own.n=10)/\tx=⟨(Bt (Cc X).toNat).toArray⟩/\∃(a:Option Addr) (cc:Nat),x=⟨X.id,X.b1,X.c1,X.b2,X.c2,⟨a,(DW ((List.range X.own.n).map X.own.h) (Cc X)).length,cc,Bl (DW ((List.range X.own.n).map X.own.h) (Cc X))⟩,X.made+1⟩)):=by
 obtain⟨th,kd,id_,to_,cat,dat,sb1,sc1,sb2,sc2⟩:=s;simp only at hk ⊢;subst hk;have XN:Hid (X.new B w/\(X.own.n<=X.own.k/\X.own.k<=maxLen)):=hid (by rw[hX];exact⟨st.tn _ (List.getElem_mem ht),st.tc _ (List.getElem_mem ht)⟩);have XA:Hid (X.at w):=hid XN.out.1.at;have on1:X.own.n<=1048576:=xs.2.2;obtain⟨CW,gl⟩:=st.jJ ht;rw[<-hX]at CW;have n10:No (.cells #[.slice g lt.length ca,.slice oa lo.length co] 27):=⟨⟩;have n11:No (.cells #[th,.int .i64 1,id_,to_,cat,.string dat,sb1,sc1,sb2,sc2] 77):=⟨⟩;have n7:Nw ((w.alloc n10).alloc n11):=⟨⟩;have n9:No (.cells #[.slice none 0 0,.slice none 0 0] 27):=⟨⟩;have b3:Below w w ((n7:World).alloc n9):=((CY w _).alloc (by simp) _).alloc (by simp;omega) _;have CC:=CW.below gl b3;have q0:((n7:World).alloc n9).cell? ⟨g,t*7,none⟩=some (.int .i64 X.id):=CC.c0;have q1:((n7:World).alloc n9).cell? ⟨g,t*7+1,none⟩=some (.int .i64 X.b1):=CC.c1;have q2:((n7:World).alloc n9).cell? ⟨g,t*7+2,none⟩=some (.slice X.c1.a X.c1.n X.c1.k):=CC.c2;have q3:((n7:World).alloc n9).cell? ⟨g,t*7+3,none⟩=some (.int .i64 X.b2):=CC.c3;have q4:((n7:World).alloc n9).cell? ⟨g,t*7+4,none⟩=some (.slice X.c2.a X.c2.n X.c2.k):=CC.c4;have q5:((n7:World).alloc n9).cell? ⟨g,t*7+5,none⟩=some (.slice X.own.a X.own.n X.own.k):=CC.c5;have q6:((n7:World).alloc n9).cell? ⟨g,t*7+6,none⟩=some (.int .i64 X.made):=CC.c6;have n8:No (.cells X 47):=⟨⟩;have b0:Below w w (((n7:World).alloc n9).alloc n8):=(((CY w _).alloc (by simp) _).alloc (by simp;omega) _).alloc (by simp;omega) _;have A0:Ai (((n7:World).alloc n9).alloc n8) w n10:=(((Ai.new w _).alloc _).alloc _).alloc _;have P0:Ai (((n7:World).alloc n9).alloc n8) (w.heap.size+1) n11:=by have:=((Ai.new (w.alloc n10) n11).alloc n9).alloc n8;simpa using this
 have R0:Ai (((n7:World).alloc n9).alloc n8) (w.heap.size+1+1) n9:=by have:=(Ai.new n7 n9).alloc n8;simpa using this
 have X0:Ai (((n7:World).alloc n9).alloc n8) (w.heap.size+1+1+1) n8:=by have:=Ai.new ((n7:World).alloc n9) n8;simpa using this
 have HS:=hid (st.below b0);have HB:=hid b0;have ST:=hid st;have HA:=hid A0;have HP:=hid P0;have HR:=hid R0;have HX:=hid X0;have EX:=hid hX;have i0:(0:Int)<=(t:Int):=by omega
 have i1:(t:Int)<(lt.length:Int):=by omega
 have w1_:IntKind.i64.wrap (1000*X.id)=1000*X.id:=by rw[IntKind.wrap_i64];omega
 have w2_:IntKind.i64.wrap (1000*X.id+X.made)=1000*X.id+X.made:=by rw[IntKind.wrap_i64];omega
 have w3_:IntKind.i64.wrap (1000*X.id+X.made+1)=1000*X.id+X.made+1:=by rw[IntKind.wrap_i64];omega
 have w4_:IntKind.i64.wrap (X.made+1)=X.made+1:=by rw[IntKind.wrap_i64];omega
 obtain⟨x0,x1⟩:=HA.out.two;obtain⟨s0,s1,s2,s3,s4,s5,s6,s7,s8,s9⟩:=HP.out.jE;obtain⟨y0,y1,y2,y3,y4,y5,y6⟩:=HX.out.seven;obtain⟨r0,r1⟩:=HR.out.two;have rf:=HR.out.jC;clear CC CW b3 b0 A0 P0 R0 X0 hX st;by_cases hf:X.made=30∨X.own.n=10
 ·have HF:=hid hf;have NB:Hid (Below w w (((n7:World).alloc n10).alloc n8)):=hid ((((CY w _).alloc (by simp) _).alloc (by simp;omega) _).alloc (by simp;omega) _);have NOF:Hid (Cf (((n7:World).alloc n10).alloc n8) B (.slice g lt.length ca) (.slice oa lo.length co) (lt.set t X) lo):=hid (by
   have e:=J0 ht;rw[<-EX.out]at e;rw[e];exact ST.out.below NB)
  have NR:Hid (Ai (((n7:World).alloc n10).alloc n8) (w.heap.size+1+1) n10):=hid (by have:=(Ai.new n7 n10).alloc n8;simpa using this);by_cases h3:X.made=30
  ·have h3':(X.made==30)=true:=(by simpa using h3);have h3'':decide (X.made=30)=true:=decide_eq_true h3;clear hf h3;go_enter func88,ntmps88
   go_wp2;exact bodyPost_ret (Am _ _ (w.heap.size+1+1) 6 _ _ _ _ Tryz.results88 NR rfl rfl rfl) rfl ⟨X,5,_,rfl,NOF,NB.out.mono hB,.inl ⟨rfl,HF,rfl,rfl⟩⟩
  ·have h4:X.own.n=10:=hf.resolve_left h3;have h3':(X.made==30)=false:=(by simpa using h3);have h3'':decide (X.made=30)=false:=decide_eq_false h3;have h4':(X.own.n:Int)=10:=(by omega);have H4:=hid h4;clear hf h3 h4;go_enter func88,ntmps88
   go_wp2;exact bodyPost_ret (Am _ _ (w.heap.size+1+1) 6 _ _ _ _ Tryz.results88 NR rfl rfl rfl) rfl ⟨X,5,_,rfl,NOF,NB.out.mono hB,.inl ⟨rfl,HF,rfl,rfl⟩⟩
 ·have h3:¬X.made=30:=fun h=>hf (.inl h);have h4:¬X.own.n=10:=fun h=>hf (.inr h);have h3':(X.made==30)=false:=by simpa using h3
  have h3'':decide (X.made=30)=false:=decide_eq_false h3;have h4':¬(X.own.n:Int)=10:=by omega
  have HF:=hid hf;have KB:=hid HS.out;have CC:=(KB.out.jJ ht).1;have c0:=CC.c0;have c1:=CC.c1;have c2:=CC.c2;have c3:=CC.c3;have c4:=CC.c4;have c5:=CC.c5;have c6:=CC.c6;have GF:=hid (KB.out.setMade (m:=X.made+1) ht EX);have gf:=GF.out.2.1.choose_spec.jC;have ng1:¬g=w.heap.size:=by omega
  have ng2:¬g=w.heap.size+1:=by omega
  have ng3:¬g=w.heap.size+1+1:=by omega
  have ng4:¬g=w.heap.size+1+1+1:=by omega
  clear hf CC h3 h4;go_enter func88,ntmps88
  go_wp2_with fail
  have A7:=hid (HA.out.other (Q:=g) ng1 (i:=t*7+6) (.int .i64 (X.made+1)));have P7:=hid (HP.out.other (Q:=g) ng2 (i:=t*7+6) (.int .i64 (X.made+1)));have R7:=hid (HR.out.other (Q:=g) ng3 (i:=t*7+6) (.int .i64 (X.made+1)));have X7:=hid (HX.out.other (Q:=g) ng4 (i:=t*7+6) (.int .i64 (X.made+1)));have n12:No (.cells X 47):=⟨⟩;have L7:Hid (Below B w ((((n7:World).alloc n9).alloc n12).setCell ⟨g,t*7+6,none⟩ (.int .i64 (X.made+1)))):=hid ((HB.out.mono hB).setCell (by dsimp only;exact GF.out.2.2) _);have S7:Hid (w.heap.size<=((((n7:World).alloc n9).alloc n12).setCell ⟨g,t*7+6,none⟩ (.int .i64 (X.made+1))).heap.size):=hid (by rw[nblk_setCell];exact HB.out.size);have XI:Hid (X.own.at ((((n7:World).alloc n9).alloc n12).setCell ⟨g,t*7+6,none⟩ (.int .i64 (X.made+1)))):=hid (((XN.out.1.keeps (CN.of_below HB).l).keeps (Aw (i:=t*7+6) GF.out.2.1.choose_spec (by decide) (.int .i64 (X.made+1)))).at.2.2);have K7:=hid GF.out.1;have gB:=GF.out.2.2;clear gf GF KB HA HP HR HX HS c0 c1 c2 c3 c4 c5 c6 x0 x1 s0 s1 s2 s3 s4 s5 s6 s7 s8 s9 r0 r1 rf y0 y1 y2 y3 y4 y5 y6 q0 q1 q2 q3 q4 q5 q6 HB;generalize (((n7:World).alloc n9).alloc n12).setCell ⟨g,t*7+6,none⟩ (.int .i64 (X.made+1))=W7 at *;obtain⟨LS,eLS⟩:∃l,l=lt.set t (⟨X.id,X.b1,X.c1,X.b2,X.c2,X.own,X.made+1⟩:Af):=⟨_,rfl⟩;rw[<-eLS]at K7;have el1:LS.length=lt.length:=by rw[eLS];simp
  have ht':t<LS.length:=by rw[el1];exact ht
  have EL:Hid ((⟨X.id,X.b1,X.c1,X.b2,X.c2,X.own,X.made+1⟩:Af)=LS[t]/\∀y,LS.set t y=lt.set t y):=hid ⟨by simp only[eLS,List.getElem_set_self],fun y=>by rw[eLS,List.set_set]⟩;rw[<-el1]at K7;clear eLS;have BX:Hid (∀W,Below W7 W7 W->Ai W w (.cells #[.slice g lt.length ca,.slice oa lo.length co] 27)/\Ai W (w.heap.size+1) n11/\Ai W (w.heap.size+1+1) n9/\Ai W (w.heap.size+1+1+1) (.cells X 47)/\Cf W B (.slice g LS.length ca) (.slice oa lo.length co) LS lo):=hid (fun W hW=>⟨A7.out.below hW,P7.out.below hW,R7.out.below hW,X7.out.below hW,K7.out.below hW⟩);have LB:Hid (∀W,Below W7 W7 W->Below B w W):=hid (fun W hW=>L7.out.trans (hW.mono (Nat.le_trans hB S7)));have V0:=hid (Below.refl W7 W7);have D0:=hid (AE V0);have IA:Hid (∀W,Below W7 W7 W->X.own.at W):=hid (fun W hW=>XI.out.below hW);have EG:Hid (∀args w,(callFunc 108 args).run prog w= .ok (.enter 108 args) w):=hid (enters_of func108 (by kernel_rfl) rfl);obtain⟨N,eN⟩:∃l,l=DW ((List.range X.own.n).map X.own.h) (Cc X):=⟨_,rfl⟩;have PL:Hid (N.length<=1048576):=hid (by
   have h1:=LU ((List.range X.own.n).map X.own.h) (Cc X);have h2:((List.range X.own.n).map X.own.h).length=X.own.n:=(by simp);rw[eN];omega)
  have CP:Hid (Calls prog 108 #[X.own,.int .i64 (1000*X.id+X.made+1)] W7.drew fun e w'=>∃v,e= .returned v/\(∃va vc,v= .slice va N.length vc/\AQ w' W7.drew.heap.size (.slice va N.length vc) N/\Below W7.drew.heap.size W7.drew w')):=hid ((Ro X.own (1000*X.id+X.made+1) W7.drew (IA _ D0) on1 XN.out.2).mono fun _ _ ⟨va,vc,e1,h1,h2⟩=>⟨_,e1,va,vc,by rw[eN];rfl,by rw[eN];exact h1,h2⟩);have EN:=hid eN;clear eN;clear A7 P7 R7 X7 XI L7;obtain⟨x0,x1⟩:=(BX _ D0).1.two;obtain⟨s0,s1,s2,s3,s4,s5,s6,s7,s8,s9⟩:=(BX _ D0).2.1.jE;obtain⟨y0,y1,y2,y3,y4,y5,y6⟩:=(BX _ D0).2.2.2.1.seven;go_region_law(first
   |(refine UY (by rfl) 108 _ _ _ (by rfl) EG _ _ (by rfl) (by rfl) _ CP ?_;rintro v w8 ⟨va,vc,rfl,o8,b8⟩;have V8:=hid (Ac D0 b8);have O8:=hid o8;obtain⟨m0,m1⟩:=(BX _ V8).1.two;obtain⟨n0,n1,n2,n3,n4,n5,n6⟩:=(BX _ V8).2.2.2.1.seven;have KB:=hid (BX.out _ V8).2.2.2.2;have CC:=(KB.out.jJ ht').1;rw[<-EL.out.1]at CC;have ND:Hid (AU.new B w8 ⟨va,N.length,vc,Bl N⟩):=hid ((O8.out.newL PL).low (Nat.le_trans hB (Nat.le_trans S7 D0.out.size)));have CQ:=hid (GH O8);have c5:=CC.c5;have GF:=hid (KB.out.setOwn (d:=⟨va,N.length,vc,Bl N⟩) ht' EL.out.1 ND CQ);have gf:=GF.out.2.1.choose_spec.jC;clear o8 b8 CC))
  all_goals(
   have ng1':g≠w.heap.size:=ng1;have A8:=hid ((BX _ V8).1.other (Q:=g) ng1 (i:=t*7+5) (.slice va N.length vc));have R8:=hid ((BX _ V8).2.2.1.other (Q:=g) ng3 (i:=t*7+5) (.slice va N.length vc));have L8:Hid (Below B w (w8.setCell ⟨g,t*7+5,none⟩ (.slice va N.length vc))):=hid ((LB _ V8).setCell (by dsimp only;exact gB) _);have S8:Hid (w.heap.size<=(w8.setCell ⟨g,t*7+5,none⟩ (.slice va N.length vc)).heap.size):=hid (by rw[nblk_setCell];exact Nat.le_trans S7 V8.out.size);have K8:=hid GF.out.1;clear GF gf c5 KB ND CQ m0 m1 n0 n1 n2 n3 n4 n5 n6 x0 x1 s0 s1 s2 s3 s4 s5 s6 s7 s8 s9 y0 y1 y2 y3 y4 y5 y6;generalize w8.setCell ⟨g,t*7+5,none⟩ (.slice va N.length vc)=W8 at *;have D8:=hid (AE (Below.refl W8 W8));have BY:Hid (∀W,Below W8 W8 W->Ai W w (.cells #[.slice g lt.length ca,.slice oa lo.length co] 27)/\Ai W (w.heap.size+1+1) n9):=hid (fun W hW=>⟨A8.out.below hW,R8.out.below hW⟩);obtain⟨x0,x1⟩:=(BY _ D8).1.two;obtain⟨r0,r1⟩:=(BY _ D8).2.two;have rf:=(BY _ D8).2.jC;have EG9:Hid (∀args w,(callFunc 20 args).run prog w= .ok (.enter 20 args) w):=hid (enters_of func20 (by kernel_rfl) rfl);have CP9:Hid (Calls prog 20 #[.int .i64 (1000*X.id+X.made+1)] W8.drew fun e w'=>∃v,e= .returned v/\(v= .string ⟨(Bt (Cc X).toNat).toArray⟩/\Below W8.drew.heap.size W8.drew w')):=hid (by
    have e:(((Cc X).toNat:Nat):Int)=1000*X.id+X.made+1:=(by unfold Cc;omega);rw[<-e];exact(Kg _ _ (by unfold Cc;omega)).mono fun _ _ ⟨e1,h1⟩=>⟨_,e1,rfl,h1⟩)
   go_wp2_with fail
   go_region_law(first
    |(refine Kq (by rfl) 20 _ _ (by rfl) EG9 _ (by rfl) _ CP9 ?_;rintro v w9 ⟨rfl,b9⟩;have V9:=hid (Ac D8 b9);obtain⟨m0,m1⟩:=(BY _ V9).1.two;obtain⟨z0,z1⟩:=(BY _ V9).2.two;have zf:=(BY _ V9).2.jC;clear b9))
   all_goals(
    go_wp2;refine bodyPost_ret (Am _ _ (w.heap.size+1+1) 6 _ _ _ _ Tryz.results88 (((BY _ V9).2.jB (i:=0) _).jB (i:=1) _) rfl rfl rfl) rfl ⟨_,0,_,rfl,?_,?_,.inr ⟨rfl,HF,rfl,va,vc,by rw[<-EN.out]⟩⟩
    ·have k9:=((K8.out.below V9).set (BY _ V9).2 (.inl rfl) (i:=0) (.slice g lt.length ca)).set ((BY _ V9).2.jB (i:=0) _) (.inl rfl) (i:=1) (.slice oa lo.length co);rw[EL.out.2,el1]at k9;exact k9
    ·exact(((L8.out.trans (V9.out.mono (Nat.le_trans hB S8))).setCell (by dsimp only;omega) _).setCell (by dsimp only;omega) _)))
variable {lo:List Ae}{w:World}{B ca co:Nat}{ta oa:Option Addr}{lt:List Af}
theorem Gs{P:Program}{ops:Array Oper}{Q:Exit->Act->World->Prop}{md:Region.Mode}{S:World->Prop}{m:Nat}{i j:Nat}{o o':Oper}{fuel:Nat}{listed:Array Bool}{a:Act}{w:World}(hr:Region.ready md ops listed=[i,j])(ho:ops[i]? =some o)(ho':ops[j]? =some o')
 (h:∀K':Act->World->Prop,Shut (∀a w,((listed.setIfInBounds i true).getD m false=false->S w)->Bu P md ops Q S m fuel (listed.setIfInBounds i true) a w->K' a w)->if Region.wanted o (yielded ops a.tmps)=true then Oper.wp P o a w K' Q else K' (a.put o.dst undef) w)
 (h':∀K':Act->World->Prop,Shut (∀a w,((listed.setIfInBounds j true).getD m false=false->S w)->Bu P md ops Q S m fuel (listed.setIfInBounds j true) a w->K' a w)->if Region.wanted o' (yielded ops a.tmps)=true then Oper.wp P o' a w K' Q else K' (a.put o'.dst undef) w):
 Bu P md ops Q S m (fuel+1) listed a w:=
 ⟨fun h0=>(by rw[hr]at h0;cases h0),fun k hk=>by
   rw[hr]at hk;rcases List.mem_cons.1 hk with rfl|hk
   ·exact wpOp_step ho (fun K' hK=>h K' (fun a w hS hW=>hK a w ⟨hS,hW⟩))
   ·obtain rfl:=List.mem_singleton.1 hk;exact wpOp_step ho' (fun K' hK=>h' K' (fun a w hS hW=>hK a w ⟨hS,hW⟩))⟩
theorem FV{f:Nat}{a:Array Value}{W:World}{v:Value}{R:World->Prop}(h:Calls prog f a W fun e w'=>e= .returned v/\R w'):Calls prog f a W fun e w'=>∃x,e= .returned x/\(x=v/\R w'):=h.mono fun _ _ ⟨e1,h1⟩=>⟨_,e1,rfl,h1⟩
def Po(X:Af)(b:Int)(c:AH):Bool:=Dh b c.n c.f c.g X.own.n X.own.h X.b1 X.c1.n X.c1.f X.c1.g
def AR(X:Af)(b:Int)(c:AH):Bool:=Po X b c&&Dh X.b1 X.c1.n X.c1.f X.c1.g X.own.n X.own.h b c.n c.f c.g
theorem bJ(X:Af)(b:Int)(c:AH)(W:World)(hX:X.at W)(xs:X.small)(r1:Fg X.c1)(hc:c.at W)(hn:c.n<=1048576)(rc:Fg c):
 Calls prog 116 #[.agg X,.agg #[.int .i64 b,c]] W fun e w'=>e= .returned (.bool (Po X b c))/\Below W W w':=
 On X.id X.made X.b1 X.c1.a X.c1.n X.c1.k X.c1.f X.c1.g X.b2 X.c2.a X.c2.n X.c2.k X.c2.f X.c2.g X.own.a X.own.n X.own.k X.own.h b c.a c.n c.k c.f c.g W hX.1.1 hX.2.1.1 hX.2.2.1 hX.1.2 hX.2.1.2 hX.2.2.2 hc.1 hc.2 xs.1 hn r1 rc
theorem Hm(X:Af)(b:Int)(c:AH)(W:World)(hX:X.at W)(xs:X.small)(r1:Fg X.c1)(hc:c.at W)(hn:c.n<=1048576)(rc:Fg c):
 Calls prog 112 #[.agg X,.agg #[.int .i64 b,c]] W fun e w'=>e= .returned (.bool (AR X b c))/\Below W W w':=
 Qg X.id X.made X.b1 X.c1.a X.c1.n X.c1.k X.c1.f X.c1.g X.b2 X.c2.a X.c2.n X.c2.k X.c2.f X.c2.g X.own.a X.own.n X.own.k X.own.h b c.a c.n c.k c.f c.g W hX.1.1 hX.2.1.1 hX.2.2.1 hX.1.2 hX.2.1.2 hX.2.2.2 hc.1 hc.2 xs.1 hn r1 rc
def Hc(b:Int)(c:AH)(o:AU)(b':Int)(c':AH):Bool:=Dh b c.n c.f c.g o.n o.h b' c'.n c'.f c'.g
theorem SY(b:Int)(c:AH)(o:AU)(b':Int)(c':AH)(W:World)(hc:c.at W)(ho:o.at W)(hc':c'.at W)(n1:c.n<=1048576)(n2:c'.n<=1048576)(r1:Fg c)(r2:Fg c'):
 Calls prog 109 #[.agg #[.int .i64 b,c],o,.agg #[.int .i64 b',c']] W fun e w'=>e= .returned (.bool (Hc b c o b' c'))/\Below W W w':=
 GP _ _ _ _ c.f c.g _ _ _ o.h _ _ _ _ c'.f c'.g W n1 n2 ho.1 hc.2 hc'.2 ho.2 r1 r2
theorem bH(o:AU)(x:Int)(W:World)(ho:o.at W):
 Calls prog 111 #[o,.int .i64 x] W fun e w'=>e= .returned (.bool (hasB o.n o.h x))/\w'=W:=Ki _ _ _ o.h x W ho.1 ho.2
def Nz(lo:List Ae)(x:Int):Option Nat:=Bv (fun i=>(Aa lo i).id) lo.length x
def aG(lt:List Af)(x:Int):Option Nat:=Bv (fun i=>(Bm lt i).id) lt.length x
theorem Ht{x:Int}{u:Nat}(h:Nz lo x=some u):∃hu:u<lo.length,(lo[u]'hu).id=x:=by
 obtain⟨h1,h2⟩:=AZ h;refine⟨h1,?_⟩;have e1:Aa lo u=lo[u]:=by simp[Aa,h1]
 rw[<-e1];exact h2
theorem OY(h:Cf w B (.slice ta lt.length ca) (.slice oa lo.length co) lt lo)(h1:lt.length<=1048576)(h2:lo.length<=1048576)(h3:∀x∈lo,x.data.size<=maxLen)(x:Int):
 Calls prog 50 #[.agg #[.slice ta lt.length ca,.slice oa lo.length co],.int .i64 x] w fun e w'=>e= .returned (.int .i64 (IJ (Nz lo x)))/\Below w w w':=Lk (Dm ta ca oa co lt lo) x w (h.at h1 h2 h3)
theorem bK(ta:Option Addr)(ca:Nat)(oa:Option Addr)(co:Nat)(lt:List Af)(lo:List Ae):(Dm ta ca oa co lt lo).oL lo.length=lo:=by
 refine List.ext_getElem (by simp[AJ.oL]) fun i h1 h2=>?_;simp[AJ.oL,Dm,Aa,h2]
theorem df(h:Cf w B (.slice ta lt.length ca) (.slice oa lo.length co) lt lo)(h1:lt.length<=1048576)(h2:lo.length<=1048000)(h3:∀x∈lo,x.data.size<=maxLen)(o:Ae):
 Calls prog 113 #[.agg #[.slice ta lt.length ca,.slice oa lo.length co],.agg o] w fun e w'=>∃(ob:Option Addr) (cb:Nat),e= .returned (.agg #[.slice ta lt.length ca,.slice ob (Ej o lo).length cb])/\Ba w' w (.slice ob (Ej o lo).length cb) (Ej o lo)/\Below w w w':=by
 have:=Yk (Dm ta ca oa co lt lo) o w (h.at h1 (by omega) h3) h2;have e:(Dm ta ca oa co lt lo).oL (Dm ta ca oa co lt lo).on=lo:=bK ta ca oa co lt lo;rw[e]at this;exact this
def Ut(X:Af)(s:Bd)(lo:List Ae):Bool:=
 match Nz lo s.id with
 |none=>false
 |some u=>decide ((Aa lo u).kind=3)&&AR X (Aa lo u).b1 (Aa lo u).c1&&Hc X.b1 X.c1 X.own s.b1 s.c1&&Hc s.b1 s.c1 X.own X.b2 X.c2&&(!decide (0<s.cat)||hasB X.own.n X.own.h s.cat)
theorem Pw(base:Int)(a:Option Addr)(n cap:Nat)(w:World)(hn:n<=maxLen):
 Calls prog 107 #[.agg #[.int .i64 base,.slice a n cap]] w fun e w'=>e= .returned (.bool (Fh base n))/\Below w w w':=by
 unfold maxLen at hn;have hb0:=CY w (.cells #[.int .i64 base,.slice a n cap] 44);cases t:(base==0)with
 |true=>
  go_enter func107,ntmps107
  go_wp2;go_ret;refine⟨Ag ?_,hb0⟩;unfold Fh;rw[t,Bool.true_and];by_cases e:n=0
  ·subst e;rfl
  ·have e1:(n==0)=false:=(by simpa using e);rw[e1];simp;omega
 |false=>
  go_enter func107,ntmps107
  go_wp2;go_ret;exact⟨Ag (by simp[Fh,t]),hb0⟩
def Zt(d:ByteArray):Bool:=d.toList.isEmpty
def M9(ok ui ut uc ud ul ue:Bool)(th kind id to' cat:Int)(d:ByteArray)(lo zl co zc:Bool):Bool:=
 ok&&Ed th 1 9&&lo&&(ul||zl)&&co&&(ue||zc)&&Bp d 40&&(ud||Zt d)&&aM id ui&&aM to' ut&&ZK kind cat uc
def NZ(th kind id to' cat:Int)(d:ByteArray)(bl:Int)(nl:Nat)(fl gl:Nat->Int)(bc:Int)(nc:Nat)(fc gc:Nat->Int):Bool:=
 M9 (dj kind) (dm kind) (dH kind) (Yn kind) (Zz kind) (Wr kind) (We kind) th kind id to' cat d (AO bl nl fl gl) (Fh bl nl) (AO bc nc fc gc) (Fh bc nc)
def KU(lt:List Af)(lo:List Ae):Bool:=AW (Dm none 0 none 0 lt lo)
theorem Gw{lt:List Af}{i:Nat}(h:i<lt.length):Bm lt i=lt[i]:=by simp[Bm,h]
theorem BM{lo:List Ae}{i:Nat}(h:i<lo.length):Aa lo i=lo[i]:=by simp[Aa,h]
theorem Cn{b:Int}{c:AH}(h:AO b c.n c.f c.g=true):Fg c/\c.n<=12:=by
 unfold AO at h;simp only[Bool.and_eq_true,decide_eq_true_eq,List.all_eq_true,List.mem_range]at h;obtain⟨⟨_,hn⟩,ha⟩:=h;refine⟨?_,hn⟩;intro j hj;induction j with
 |zero=>intro i hi;omega
 |succ j ih=>
  intro i hi;have h1:=ha (j+1) hj;unfold Db at h1;simp only[Bool.and_eq_true,Bool.or_eq_true,decide_eq_true_eq,beq_iff_eq]at h1;have h2:c.f j<c.f (j+1):=by
   rcases h1.2 with e|e
   ·omega
   ·simpa using e
  by_cases e:i=j
  ·subst e;exact h2
  ·have:=ih (by omega) i (by omega);omega
structure VG(x:Af):Prop where
 id:1<=x.id/\x.id<=9
 l1:AO x.b1 x.c1.n x.c1.f x.c1.g=true
 l2:AO x.b2 x.c2.n x.c2.f x.c2.g=true
 own:Cg x.own.n x.own.h=true
 made:0<=x.made/\x.made<=30
theorem JL{x:Af}:Cj x=true↔VG x:=by
 unfold Cj Fa;simp only[Bool.and_eq_true,Cv];exact⟨fun⟨⟨⟨⟨a,b⟩,c⟩,d⟩,e⟩=>⟨a,b,c,d,e⟩,fun h=>⟨⟨⟨⟨h.id,h.l1⟩,h.l2⟩,h.own⟩,h.made⟩⟩
theorem Nh{n:Nat}{h:Nat->Int}(e:Cg n h=true):n<=10:=by
 unfold Cg at e;simp only[Bool.and_eq_true,decide_eq_true_eq]at e;exact e.1
theorem VG.small{x:Af}(h:VG x):x.small:=⟨by have:=(Cn h.l1).2;omega,by have:=(Cn h.l2).2;omega,by have:=Nh h.own;omega⟩
structure Qh(x:Ae):Prop where
 l1:AO x.b1 x.c1.n x.c1.f x.c1.g=true
 l2:AO x.b2 x.c2.n x.c2.f x.c2.g=true
 own:Cg x.own.n x.own.h=true
 data:Bp x.data 40=true
 jA:De x.jA.n x.jA.f=true
 kind:Gk x=true
theorem J5{x:Ae}:Bz x=true↔Qh x:=by
 unfold Bz;simp only[Bool.and_eq_true];exact⟨fun⟨⟨⟨⟨⟨a,b⟩,c⟩,d⟩,e⟩,f⟩=>⟨a,b,c,d,e,f⟩,fun h=>⟨⟨⟨⟨⟨h.l1,h.l2⟩,h.own⟩,h.data⟩,h.jA⟩,h.kind⟩⟩
theorem H7{d:ByteArray}(h:Bp d 40=true):d.size<=40:=by
 unfold Bp at h;simp only[Bool.and_eq_true,decide_eq_true_eq]at h;omega
section
variable {lt:List Af}{lo:List Ae} (ok:KU lt lo=true)
include ok
theorem Gn:1<=lt.length/\lt.length<=9:=by
 have h:=Cx (CG ok).1;exact⟨h.1,h.2.1⟩
theorem FR:1<=lo.length/\lo.length<=271:=by
 have h:=BJ (CG ok).2.1;exact⟨h.1,h.2.1⟩
theorem GD:∀x∈lt,VG x:=fun x hx=>by
 obtain⟨i,hi,e⟩:=List.mem_iff_getElem.1 hx;have h:=(Cx (CG ok).1).2.2 i hi;unfold Dw at h;simp only[Bool.and_eq_true]at h;have e2:(Dm none 0 none 0 lt lo).T i=x:=(Gw hi).trans e;rw[e2]at h;exact JL.1 h.1
theorem Fs:∀x∈lo,Qh x:=fun x hx=>by
 obtain⟨i,hi,e⟩:=List.mem_iff_getElem.1 hx;have h:=(BJ (CG ok).2.1).2.2.1 i hi;unfold Ff at h;simp only[Bool.and_eq_true]at h;have e2:(Dm none 0 none 0 lt lo).O i=x:=(BM hi).trans e;rw[e2]at h;exact J5.1 h.1
theorem Sl:∀x∈lo,0<=x.id/\x.id<=1000000:=fun x hx=>by
 obtain⟨i,hi,e⟩:=List.mem_iff_getElem.1 hx;have k:=Cl.1 ok;have e2:(Dm none 0 none 0 lt lo).O i=x:=(BM hi).trans e;by_cases h0:i=0
 ·subst h0;have r:=k.root;rw[e2]at r;unfold FJ at r;simp only[Bool.and_eq_true,beq_iff_eq]at r;omega
 ·have h:=k.num i (by omega) hi;rw[e2]at h;obtain⟨t,h1,h2,h3,h4⟩:=GV k.thr h;have e3:(Dm none 0 none 0 lt lo).T t=lt[t]:=Gw h1;rw[e3]at h2 h4;have f:=GD ok _ (List.getElem_mem h1);have:=f.id;have:=f.made;omega
theorem Hs:∀x∈lo,x.data.size<=maxLen:=fun x hx=>by
 have:=H7 (Fs ok x hx).data;unfold maxLen;omega
theorem RE:∀x∈lo,x.jA.n<=8/\∀i,i<x.jA.n->Bp (x.jA.f i) 40=true:=fun x hx=>by
 have h:=(Fs ok x hx).jA;unfold De at h;simp only[Bool.and_eq_true,decide_eq_true_eq,List.all_eq_true,List.mem_range]at h;exact⟨by omega,h.2⟩
end
def Bd.ok(s:Bd):Bool:=NZ s.th s.kind s.id s.to s.cat s.data s.b1 s.c1.n s.c1.f s.c1.g s.b2 s.c2.n s.c2.f s.c2.g
structure Yv(s:Bd):Prop where
 kind:1<=s.kind/\s.kind<=15
 l1:AO s.b1 s.c1.n s.c1.f s.c1.g=true
 l2:AO s.b2 s.c2.n s.c2.f s.c2.g=true
 data:Bp s.data 40=true
 cat:ZK s.kind s.cat (Yn s.kind)=true
 id:aM s.id (dm s.kind)=true
theorem UO{s:Bd}(h:s.ok=true):Yv s:=by
 unfold Bd.ok NZ M9 at h;simp only[Bool.and_eq_true]at h;obtain⟨⟨⟨⟨⟨⟨⟨⟨⟨⟨a,b⟩,c⟩,d⟩,e⟩,f⟩,g⟩,i⟩,j⟩,k⟩,l⟩:=h;refine⟨?_,c,e,g,l,j⟩;unfold dj at a;simp only[Bool.or_eq_true,beq_iff_eq]at a;omega
structure bO(lt:List Af)(lo:List Ae):Prop where
 tn:1<=lt.length/\lt.length<=9
 on:1<=lo.length/\lo.length<=271
 data:∀x∈lo,x.data.size<=maxLen
 id:∀x∈lo,0<=x.id/\x.id<=1000000
 thr:∀x∈lt,Cg x.own.n x.own.h=true/\AO x.b1 x.c1.n x.c1.f x.c1.g=true
theorem bO.of{lt:List Af}{lo:List Ae}(h:KU lt lo=true):bO lt lo:=⟨Gn h,FR h,Hs h,Sl h,fun x hx=>⟨(GD h x hx).own,(GD h x hx).l1⟩⟩
end Go.Proofs.YtblapfnglojgjaaGreatDoor
