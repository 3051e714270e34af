import Derived.Test.YtallmkehpfaaeaaGreatDoorZ11
import Derived.Test.YtallmkehpfaaeaaGreatDoorZ13
import Derived.Test.YtallmkehpfaaeaaGreatDoorZ10
import Derived.Test.YtallmkehpfaaeaaGreatDoorZ9
import Derived.Test.YtallmkehpfaaeaaGreatDoorZ0
import Derived.Test.YtallmkehpfaaeaaGreatDoorZ1
import Derived.Test.YtallmkehpfaaeaaGreatDoorZ3
set_option maxRecDepth 100000
set_option maxHeartbeats 16000000
namespace Go.Proofs.YtallmkehpfaaeaaGreatDoor
open Go Go.RowKit Go.Deep Go.Maps Go.BigFrame Go.Shelf
theorem step_call2{ops:Array Oper}{o:Oper}{a:Act}{w:World}{K:Act→World→Prop}{Q:Exit→Act→World→Prop}{E:Prop}(hgd:o.guard=none)(f:Nat)(x y:Operand)(ats:Array TypeId)
 (ho:o.op= .call {callee:= .value (.func f),args:=#[x,y],argTypes:=ats})(eg:∀args w,(callFunc f args).run Tryz.prog w= .ok (.enter f args) w)(v0 v1:Value)(hv:a.eval x=v0)(hv1:a.eval y=v1)
 (R:Value→World→Prop)(hc:Calls Tryz.prog f #[v0,v1] w fun e w'=>∃v,e= .returned v∧R v w')(h:∀v w',R v w'→K (a.put o.dst v) w'):
 if Region.wanted o (yielded ops a.tmps)=true then Oper.wp Tryz.prog o a w K Q else E:=by
 have hw:Region.wanted o (yielded ops a.tmps)=true:=by simp[Region.wanted,hgd]
 rw[if_pos hw];have e:(execOp a.eval o).run Tryz.prog w= .ok (.enter f #[v0,v1]) w:=by
  unfold execOp;simp only[ho,resolve,invoke,Sem.run_bind,List.map_toArray,List.map_cons,List.map_nil,hv,hv1];simp[go_sem,eg,Act.eval]
 unfold Oper.wp;rw[e,Oper.upon_enter];exact hc.mono fun e w' ⟨v,he,hr⟩=>by subst he;exact h v w' hr
theorem KSt.setMade{w:World}{B g ca:Nat}{vo:Value}{lt:List ThrV}{lo:List ObjV}(h:KSt w B (.slice (some ⟨g,0,none⟩) lt.length ca) vo lt lo){t:Nat}{m:Int}(ht:t<lt.length){X:ThrV}(hX:X=lt[t]):
 KSt (w.setCell ⟨g,t*7+6,none⟩ (.int .i64 m)) B (.slice (some ⟨g,0,none⟩) lt.length ca) vo (lt.set t ⟨X.id,X.b1,X.c1,X.b2,X.c2,X.own,m⟩) lo∧(∃cur,Blk w g (.cells cur 42))∧B≤g:=by
 have hn:=h.tn _ (List.getElem_mem ht);have hc:=h.tc _ (List.getElem_mem ht);rw[←hX]at hn hc;obtain⟨k1,hcur,hg⟩:=h.setT (x:=⟨X.id,X.b1,X.c1,X.b2,X.c2,X.own,m⟩) (u:= .int .i64 m) ht (i:=6) (by omega) (by rw[←hX];rfl) hn hc;have el:(lt.set t (⟨X.id,X.b1,X.c1,X.b2,X.c2,X.own,m⟩:ThrV)).length=lt.length:=by simp
 rw[el]at k1;exact⟨k1,hcur,hg⟩
def newCat(X:ThrV):Int:=1000*X.id+X.made+1
theorem l4Self_cat(lt:List ThrV)(lo:List ObjV)(g ca:Nat)(oa:Option Addr)(co B:Nat)(w:World)(st:KSt w B (.slice (some ⟨g,0,none⟩) lt.length ca) (.slice oa lo.length co) lt lo)(hB:B≤w.heap.size)(t:Nat)(ht:t<lt.length)(X:ThrV)(hX:X=lt[t])(xs:X.small)(s:StepV)(hk:s.kind=1)(hi:1≤X.id∧X.id≤9)(hm:0≤X.made∧X.made≤30)(ho:X.own.n≤10):
 Calls Tryz.prog 83 #[.agg #[.slice (some ⟨g,0,none⟩) lt.length ca,.slice oa lo.length co],.int .i64 t,.agg #[.int .i64 s.th,.int .i64 s.kind,.int .i64 s.id,.int .i64 s.to,.int .i64 s.cat,.string s.data,.int .i64 s.b1,.slice s.c1.a s.c1.n s.c1.k,.int .i64 s.b2,.slice s.c2.a s.c2.n s.c2.k]] w fun e w'=>∃(x:ThrV) (c:Int) (tx:ByteArray),e= .returned (.tuple #[.agg #[.slice (some ⟨g,0,none⟩) lt.length ca,.slice oa lo.length co],.int .i64 c,.string tx])∧KSt w' B (.slice (some ⟨g,0,none⟩) lt.length ca) (.slice oa lo.length co) (lt.set t x) lo∧Below B w w'∧((c=5∧(X.made=30∨X.own.n=10)∧x=X∧tx=⟨#[]⟩)∨(c=0∧¬(X.made=30∨X.own.n=10)∧tx=⟨(decL (newCat X).toNat).toArray⟩∧∃(a:Option Addr) (cc:Nat),x=⟨X.id,X.b1,X.c1,X.b2,X.c2,⟨a,(putL ((List.range X.own.n).map X.own.h) (newCat X)).length,cc,nthI (putL ((List.range X.own.n).map X.own.h) (newCat X))⟩,X.made+1⟩)):=by
 obtain⟨th,kd,id_,to_,cat,dat,sb1,sc1,sb2,sc2⟩:=s;simp only at hk ⊢;subst hk;have XN:Hid (X.new B w∧(X.own.n≤X.own.k∧X.own.k≤maxLen)):=hid (by rw[hX];exact⟨st.tn _ (List.getElem_mem ht),st.tc _ (List.getElem_mem ht)⟩);have XA:Hid (X.at w):=hid XN.out.1.at;have on1:X.own.n≤1048576:=xs.2.2;obtain⟨CW,gl⟩:=st.cell7 ht;rw[←hX]at CW;have n10:No (.cells #[.slice (some ⟨g,0,none⟩) lt.length ca,.slice oa lo.length co] 27):=⟨⟩;have n11:No (.cells #[.int .i64 th,.int .i64 1,.int .i64 id_,.int .i64 to_,.int .i64 cat,.string dat,.int .i64 sb1,.slice sc1.a sc1.n sc1.k,.int .i64 sb2,.slice sc2.a sc2.n sc2.k] 32):=⟨⟩;have n7:Nw ((w.alloc n10).alloc n11):=⟨⟩;have n9:No (.cells #[.slice none 0 0,.slice none 0 0] 27):=⟨⟩;have b3:Below w.heap.size w ((n7:World).alloc n9):=(((Below.refl _ w).alloc (Nat.le_refl _) _).alloc (by simp) _).alloc (by simp;omega) _;have CC:=CW.below gl b3;have q0:((n7:World).alloc n9).cell? ⟨g,t*7,none⟩=some (.int .i64 X.id):=CC.c0;have q1:((n7:World).alloc n9).cell? ⟨g,t*7+1,none⟩=some (.int .i64 X.b1):=CC.c1;have q2:((n7:World).alloc n9).cell? ⟨g,t*7+2,none⟩=some (.slice X.c1.a X.c1.n X.c1.k):=CC.c2;have q3:((n7:World).alloc n9).cell? ⟨g,t*7+3,none⟩=some (.int .i64 X.b2):=CC.c3;have q4:((n7:World).alloc n9).cell? ⟨g,t*7+4,none⟩=some (.slice X.c2.a X.c2.n X.c2.k):=CC.c4;have q5:((n7:World).alloc n9).cell? ⟨g,t*7+5,none⟩=some (.slice X.own.a X.own.n X.own.k):=CC.c5;have q6:((n7:World).alloc n9).cell? ⟨g,t*7+6,none⟩=some (.int .i64 X.made):=CC.c6;have n8:No (.cells #[.int .i64 X.id,.int .i64 X.b1,.slice X.c1.a X.c1.n X.c1.k,.int .i64 X.b2,.slice X.c2.a X.c2.n X.c2.k,.slice X.own.a X.own.n X.own.k,.int .i64 X.made] 42):=⟨⟩;have b0:Below w.heap.size w (((n7:World).alloc n9).alloc n8):=((((Below.refl _ w).alloc (Nat.le_refl _) _).alloc (by simp) _).alloc (by simp;omega) _).alloc (by simp;omega) _;have A0:Blk (((n7:World).alloc n9).alloc n8) w.heap.size n10:=(((Blk.new w _).alloc _).alloc _).alloc _;have P0:Blk (((n7:World).alloc n9).alloc n8) (w.heap.size+1) n11:=by have:=((Blk.new (w.alloc n10) n11).alloc n9).alloc n8;simpa using this
 have R0:Blk (((n7:World).alloc n9).alloc n8) (w.heap.size+1+1) n9:=by have:=(Blk.new n7 n9).alloc n8;simpa using this
 have X0:Blk (((n7:World).alloc n9).alloc n8) (w.heap.size+1+1+1) n8:=by have:=Blk.new ((n7:World).alloc n9) n8;simpa using this
 have HS:=hid (st.below b0);have HB:=hid b0;have ST:=hid st;have HA:=hid A0;have HP:=hid P0;have HR:=hid R0;have HX:=hid X0;have EX:=hid hX;have i0:(0:Int)≤(t:Int):=by omega
 have i1:(t:Int)<(lt.length:Int):=by omega
 have w1_:IntKind.i64.wrap (1000*X.id)=1000*X.id:=by rw[IntKind.wrap_i64];omega
 have w2_:IntKind.i64.wrap (1000*X.id+X.made)=1000*X.id+X.made:=by rw[IntKind.wrap_i64];omega
 have w3_:IntKind.i64.wrap (1000*X.id+X.made+1)=1000*X.id+X.made+1:=by rw[IntKind.wrap_i64];omega
 have w4_:IntKind.i64.wrap (X.made+1)=X.made+1:=by rw[IntKind.wrap_i64];omega
 obtain⟨x0,x1⟩:=HA.out.two;obtain⟨s0,s1,s2,s3,s4,s5,s6,s7,s8,s9⟩:=HP.out.ten;obtain⟨y0,y1,y2,y3,y4,y5,y6⟩:=HX.out.seven;obtain⟨r0,r1⟩:=HR.out.two;have rf:=HR.out.warm;clear CC CW b3 b0 A0 P0 R0 X0 hX st;by_cases hf:X.made=30∨X.own.n=10
 ·have HF:=hid hf;have NB:Hid (Below w.heap.size w (((n7:World).alloc n10).alloc n8)):=hid (((((Below.refl _ w).alloc (Nat.le_refl _) _).alloc (by simp) _).alloc (by simp;omega) _).alloc (by simp;omega) _);have NOF:Hid (KSt (((n7:World).alloc n10).alloc n8) B (.slice (some ⟨g,0,none⟩) lt.length ca) (.slice oa lo.length co) (lt.set t X) lo):=hid (by
   have e:=set_same ht;rw[←EX.out]at e;rw[e];exact ST.out.below NB.out)
  have NR:Hid (Blk (((n7:World).alloc n10).alloc n8) (w.heap.size+1+1) n10):=hid (by have:=(Blk.new n7 n10).alloc n8;simpa using this);by_cases h3:X.made=30
  ·have h3':(X.made==30)=true:=(by simpa using h3);have h3'':decide (X.made=30)=true:=decide_eq_true h3;clear hf h3;go_enter Tryz.func83,Tryz.ntmps83
   go_wp2;exact bodyPost_ret (self_results _ _ (w.heap.size+1+1) 6 _ _ _ _ Tryz.results83 NR.out rfl rfl rfl) rfl ⟨X,5,_,rfl,NOF.out,NB.out.mono hB,.inl ⟨rfl,HF.out,rfl,rfl⟩⟩
  ·have h4:X.own.n=10:=hf.resolve_left h3;have h3':(X.made==30)=false:=(by simpa using h3);have h3'':decide (X.made=30)=false:=decide_eq_false h3;have h4':(X.own.n:Int)=10:=(by omega);have H4:=hid h4;clear hf h3 h4;go_enter Tryz.func83,Tryz.ntmps83
   go_wp2;exact bodyPost_ret (self_results _ _ (w.heap.size+1+1) 6 _ _ _ _ Tryz.results83 NR.out rfl rfl rfl) rfl ⟨X,5,_,rfl,NOF.out,NB.out.mono hB,.inl ⟨rfl,HF.out,rfl,rfl⟩⟩
 ·have h3:¬X.made=30:=fun h=>hf (.inl h);have h4:¬X.own.n=10:=fun h=>hf (.inr h);have h3':(X.made==30)=false:=by simpa using h3
  have h3'':decide (X.made=30)=false:=decide_eq_false h3;have h4':¬(X.own.n:Int)=10:=by omega
  have HF:=hid hf;have KB:=hid HS.out;have CC:=(KB.out.cell7 ht).1;have c0:=CC.c0;have c1:=CC.c1;have c2:=CC.c2;have c3:=CC.c3;have c4:=CC.c4;have c5:=CC.c5;have c6:=CC.c6;have GF:=hid (KB.out.setMade (m:=X.made+1) ht EX.out);have gf:=GF.out.2.1.choose_spec.warm;have ng1:¬g=w.heap.size:=by omega
  have ng2:¬g=w.heap.size+1:=by omega
  have ng3:¬g=w.heap.size+1+1:=by omega
  have ng4:¬g=w.heap.size+1+1+1:=by omega
  clear hf CC h3 h4;go_enter Tryz.func83,Tryz.ntmps83
  go_wp2_with fail
  have A7:=hid (HA.out.other (Q:=g) ng1 (i:=t*7+6) (.int .i64 (X.made+1)));have P7:=hid (HP.out.other (Q:=g) ng2 (i:=t*7+6) (.int .i64 (X.made+1)));have R7:=hid (HR.out.other (Q:=g) ng3 (i:=t*7+6) (.int .i64 (X.made+1)));have X7:=hid (HX.out.other (Q:=g) ng4 (i:=t*7+6) (.int .i64 (X.made+1)));have n12:No (.cells #[.int .i64 X.id,.int .i64 X.b1,.slice X.c1.a X.c1.n X.c1.k,.int .i64 X.b2,.slice X.c2.a X.c2.n X.c2.k,.slice X.own.a X.own.n X.own.k,.int .i64 X.made] 42):=⟨⟩;have L7:Hid (Below B w ((((n7:World).alloc n9).alloc n12).setCell ⟨g,t*7+6,none⟩ (.int .i64 (X.made+1)))):=hid ((HB.out.mono hB).setCell (by dsimp only;exact GF.out.2.2) _);have S7:Hid (w.heap.size≤((((n7:World).alloc n9).alloc n12).setCell ⟨g,t*7+6,none⟩ (.int .i64 (X.made+1))).heap.size):=hid (by rw[nblk_setCell];exact HB.out.size);have XI:Hid (X.own.at ((((n7:World).alloc n9).alloc n12).setCell ⟨g,t*7+6,none⟩ (.int .i64 (X.made+1)))):=hid (((XN.out.1.keeps (KeepsK.of_below HB.out).l).keeps (keeps_set (i:=t*7+6) GF.out.2.1.choose_spec (by decide) (.int .i64 (X.made+1)))).at.2.2);have K7:=hid GF.out.1;have gB:=GF.out.2.2;clear gf GF KB HA HP HR HX HS c0 c1 c2 c3 c4 c5 c6 x0 x1 s0 s1 s2 s3 s4 s5 s6 s7 s8 s9 r0 r1 rf y0 y1 y2 y3 y4 y5 y6 q0 q1 q2 q3 q4 q5 q6 HB;generalize (((n7:World).alloc n9).alloc n12).setCell ⟨g,t*7+6,none⟩ (.int .i64 (X.made+1))=W7 at *;obtain⟨LS,eLS⟩:∃l,l=lt.set t (⟨X.id,X.b1,X.c1,X.b2,X.c2,X.own,X.made+1⟩:ThrV):=⟨_,rfl⟩;rw[←eLS]at K7;have el1:LS.length=lt.length:=by rw[eLS];simp
  have ht':t<LS.length:=by rw[el1];exact ht
  have EL:Hid ((⟨X.id,X.b1,X.c1,X.b2,X.c2,X.own,X.made+1⟩:ThrV)=LS[t]∧∀y,LS.set t y=lt.set t y):=hid ⟨by simp only[eLS,List.getElem_set_self],fun y=>by rw[eLS,List.set_set]⟩;rw[←el1]at K7;clear eLS;have BX:Hid (∀W,Below W7.heap.size W7 W→Blk W w.heap.size (.cells #[.slice (some ⟨g,0,none⟩) lt.length ca,.slice oa lo.length co] 27)∧Blk W (w.heap.size+1) n11∧Blk W (w.heap.size+1+1) n9∧Blk W (w.heap.size+1+1+1) (.cells #[.int .i64 X.id,.int .i64 X.b1,.slice X.c1.a X.c1.n X.c1.k,.int .i64 X.b2,.slice X.c2.a X.c2.n X.c2.k,.slice X.own.a X.own.n X.own.k,.int .i64 X.made] 42)∧KSt W B (.slice (some ⟨g,0,none⟩) LS.length ca) (.slice oa lo.length co) LS lo):=hid (fun W hW=>⟨A7.out.below hW,P7.out.below hW,R7.out.below hW,X7.out.below hW,K7.out.below hW⟩);have LB:Hid (∀W,Below W7.heap.size W7 W→Below B w W):=hid (fun W hW=>L7.out.trans (hW.mono (Nat.le_trans hB S7.out)));have V0:=hid (Below.refl W7.heap.size W7);have D0:=hid (below_drew V0.out);have IA:Hid (∀W,Below W7.heap.size W7 W→X.own.at W):=hid (fun W hW=>XI.out.below hW);have EG:Hid (∀args w,(callFunc 118 args).run Tryz.prog w= .ok (.enter 118 args) w):=hid (enters_of Tryz.func118 (by kernel_rfl) rfl);obtain⟨N,eN⟩:∃l,l=putL ((List.range X.own.n).map X.own.h) (newCat X):=⟨_,rfl⟩;have PL:Hid (N.length≤1048576):=hid (by
   have h1:=putL_len ((List.range X.own.n).map X.own.h) (newCat X);have h2:((List.range X.own.n).map X.own.h).length=X.own.n:=(by simp);rw[eN];omega)
  have CP:Hid (Calls Tryz.prog 118 #[.slice X.own.a X.own.n X.own.k,.int .i64 (1000*X.id+X.made+1)] W7.drew fun e w'=>∃v,e= .returned v∧(∃va vc,v= .slice va N.length vc∧OwnI w' W7.drew.heap.size (.slice va N.length vc) N∧Below W7.drew.heap.size W7.drew w')):=hid ((l2Put_all X.own (1000*X.id+X.made+1) W7.drew (IA.out _ D0.out) on1 XN.out.2).mono fun _ _ ⟨va,vc,e1,h1,h2⟩=>⟨_,e1,va,vc,by rw[eN];rfl,by rw[eN];exact h1,h2⟩);have EN:=hid eN;clear eN;clear A7 P7 R7 X7 XI L7;obtain⟨x0,x1⟩:=(BX.out _ D0.out).1.two;obtain⟨s0,s1,s2,s3,s4,s5,s6,s7,s8,s9⟩:=(BX.out _ D0.out).2.1.ten;obtain⟨y0,y1,y2,y3,y4,y5,y6⟩:=(BX.out _ D0.out).2.2.2.1.seven;go_region_law(first
   |(refine step_call2 (by rfl) 118 _ _ _ (by rfl) EG.out _ _ (by rfl) (by rfl) _ CP.out ?_;rintro v w8 ⟨va,vc,rfl,o8,b8⟩;have V8:=hid (then_ D0.out b8);have O8:=hid o8;obtain⟨m0,m1⟩:=(BX.out _ V8.out).1.two;obtain⟨n0,n1,n2,n3,n4,n5,n6⟩:=(BX.out _ V8.out).2.2.2.1.seven;have KB:=hid (BX.out _ V8.out).2.2.2.2;have CC:=(KB.out.cell7 ht').1;rw[←EL.out.1]at CC;have ND:Hid (IntL.new B w8 ⟨va,N.length,vc,nthI N⟩):=hid ((O8.out.newL PL.out).low (Nat.le_trans hB (Nat.le_trans S7.out D0.out.size)));have CQ:=hid (own_cap O8.out);have c5:=CC.c5;have GF:=hid (KB.out.setOwn (d:=⟨va,N.length,vc,nthI N⟩) ht' EL.out.1 ND.out CQ.out);have gf:=GF.out.2.1.choose_spec.warm;clear o8 b8 CC))
  all_goals(
   have ng1':g≠w.heap.size:=ng1;have A8:=hid ((BX.out _ V8.out).1.other (Q:=g) ng1 (i:=t*7+5) (.slice va N.length vc));have R8:=hid ((BX.out _ V8.out).2.2.1.other (Q:=g) ng3 (i:=t*7+5) (.slice va N.length vc));have L8:Hid (Below B w (w8.setCell ⟨g,t*7+5,none⟩ (.slice va N.length vc))):=hid ((LB.out _ V8.out).setCell (by dsimp only;exact gB) _);have S8:Hid (w.heap.size≤(w8.setCell ⟨g,t*7+5,none⟩ (.slice va N.length vc)).heap.size):=hid (by rw[nblk_setCell];exact Nat.le_trans S7.out V8.out.size);have K8:=hid GF.out.1;clear GF gf c5 KB ND CQ m0 m1 n0 n1 n2 n3 n4 n5 n6 x0 x1 s0 s1 s2 s3 s4 s5 s6 s7 s8 s9 y0 y1 y2 y3 y4 y5 y6;generalize w8.setCell ⟨g,t*7+5,none⟩ (.slice va N.length vc)=W8 at *;have D8:=hid (below_drew (Below.refl W8.heap.size W8));have BY:Hid (∀W,Below W8.heap.size W8 W→Blk W w.heap.size (.cells #[.slice (some ⟨g,0,none⟩) lt.length ca,.slice oa lo.length co] 27)∧Blk W (w.heap.size+1+1) n9):=hid (fun W hW=>⟨A8.out.below hW,R8.out.below hW⟩);obtain⟨x0,x1⟩:=(BY.out _ D8.out).1.two;obtain⟨r0,r1⟩:=(BY.out _ D8.out).2.two;have rf:=(BY.out _ D8.out).2.warm;have EG9:Hid (∀args w,(callFunc 37 args).run Tryz.prog w= .ok (.enter 37 args) w):=hid (enters_of Tryz.func37 (by kernel_rfl) rfl);have CP9:Hid (Calls Tryz.prog 37 #[.int .i64 (1000*X.id+X.made+1)] W8.drew fun e w'=>∃v,e= .returned v∧(v= .string ⟨(decL (newCat X).toNat).toArray⟩∧Below W8.drew.heap.size W8.drew w')):=hid (by
    have e:(((newCat X).toNat:Nat):Int)=1000*X.id+X.made+1:=(by unfold newCat;omega);rw[←e];exact(l1Dec_any _ _ (by unfold newCat;omega)).mono fun _ _ ⟨e1,h1⟩=>⟨_,e1,rfl,h1⟩)
   go_wp2_with fail
   go_region_law(first
    |(refine step_call (by rfl) 37 _ _ (by rfl) EG9.out _ (by rfl) _ CP9.out ?_;rintro v w9 ⟨rfl,b9⟩;have V9:=hid (then_ D8.out b9);obtain⟨m0,m1⟩:=(BY.out _ V9.out).1.two;obtain⟨z0,z1⟩:=(BY.out _ V9.out).2.two;have zf:=(BY.out _ V9.out).2.warm;clear b9))
   all_goals(
    go_wp2;refine bodyPost_ret (self_results _ _ (w.heap.size+1+1) 6 _ _ _ _ Tryz.results83 (((BY.out _ V9.out).2.setAt (i:=0) _).setAt (i:=1) _) rfl rfl rfl) rfl ⟨_,0,_,rfl,?_,?_,.inr ⟨rfl,HF.out,rfl,va,vc,by rw[←EN.out]⟩⟩
    ·have k9:=((K8.out.below V9.out).set (BY.out _ V9.out).2 (.inl rfl) (i:=0) (.slice (some ⟨g,0,none⟩) lt.length ca)).set ((BY.out _ V9.out).2.setAt (i:=0) _) (.inl rfl) (i:=1) (.slice oa lo.length co);rw[EL.out.2,el1]at k9;exact k9
    ·exact(((L8.out.trans (V9.out.mono (Nat.le_trans hB S8.out))).setCell (by dsimp only;omega) _).setCell (by dsimp only;omega) _)))
theorem wpAnyG_two{P:Program}{ops:Array Oper}{Q:Exit→Act→World→Prop}{md:Region.Mode}{S:World→Prop}{m:Nat}{i j:Nat}{o o':Oper}{fuel:Nat}{listed:Array Bool}{a:Act}{w:World}(hr:Region.ready md ops listed=[i,j])(ho:ops[i]? =some o)(ho':ops[j]? =some o')
 (h:∀K':Act→World→Prop,Shut (∀a w,((listed.setIfInBounds i true).getD m false=false→S w)→wpAnyG P md ops Q S m fuel (listed.setIfInBounds i true) a w→K' a w)→if Region.wanted o (yielded ops a.tmps)=true then Oper.wp P o a w K' Q else K' (a.put o.dst undef) w)
 (h':∀K':Act→World→Prop,Shut (∀a w,((listed.setIfInBounds j true).getD m false=false→S w)→wpAnyG P md ops Q S m fuel (listed.setIfInBounds j true) a w→K' a w)→if Region.wanted o' (yielded ops a.tmps)=true then Oper.wp P o' a w K' Q else K' (a.put o'.dst undef) w):
 wpAnyG P md ops Q S m (fuel+1) listed a w:=
 ⟨fun h0=>(by rw[hr]at h0;cases h0),fun k hk=>by
   rw[hr]at hk;rcases List.mem_cons.1 hk with rfl|hk
   ·exact wpOp_step ho (fun K' hK=>h K' (fun a w hS hW=>hK a w ⟨hS,hW⟩))
   ·obtain rfl:=List.mem_singleton.1 hk;exact wpOp_step ho' (fun K' hK=>h' K' (fun a w hS hW=>hK a w ⟨hS,hW⟩))⟩
theorem calls_v{f:Nat}{a:Array Value}{W:World}{v:Value}{R:World→Prop}(h:Calls Tryz.prog f a W fun e w'=>e= .returned v∧R w'):Calls Tryz.prog f a W fun e w'=>∃x,e= .returned x∧(x=v∧R w'):=h.mono fun _ _ ⟨e1,h1⟩=>⟨_,e1,rfl,h1⟩
def seesB(X:ThrV)(b:Int)(c:CatL):Bool:=flowsB b c.n c.f c.g X.own.n X.own.h X.b1 X.c1.n X.c1.f X.c1.g
def changesB(X:ThrV)(b:Int)(c:CatL):Bool:=seesB X b c&&flowsB X.b1 X.c1.n X.c1.f X.c1.g X.own.n X.own.h b c.n c.f c.g
theorem sees_v(X:ThrV)(b:Int)(c:CatL)(W:World)(hX:X.at W)(xs:X.small)(r1:RiseL X.c1)(hc:c.at W)(hn:c.n≤1048576)(rc:RiseL c):
 Calls Tryz.prog 126 #[.agg #[.int .i64 X.id,.int .i64 X.b1,.slice X.c1.a X.c1.n X.c1.k,.int .i64 X.b2,.slice X.c2.a X.c2.n X.c2.k,.slice X.own.a X.own.n X.own.k,.int .i64 X.made],.agg #[.int .i64 b,.slice c.a c.n c.k]] W fun e w'=>e= .returned (.bool (seesB X b c))∧Below W.heap.size W w':=
 l2Sees_any X.id X.made X.b1 X.c1.a X.c1.n X.c1.k X.c1.f X.c1.g X.b2 X.c2.a X.c2.n X.c2.k X.c2.f X.c2.g X.own.a X.own.n X.own.k X.own.h b c.a c.n c.k c.f c.g W hX.1.1 hX.2.1.1 hX.2.2.1 hX.1.2 hX.2.1.2 hX.2.2.2 hc.1 hc.2 xs.1 hn r1 rc
theorem changes_v(X:ThrV)(b:Int)(c:CatL)(W:World)(hX:X.at W)(xs:X.small)(r1:RiseL X.c1)(hc:c.at W)(hn:c.n≤1048576)(rc:RiseL c):
 Calls Tryz.prog 122 #[.agg #[.int .i64 X.id,.int .i64 X.b1,.slice X.c1.a X.c1.n X.c1.k,.int .i64 X.b2,.slice X.c2.a X.c2.n X.c2.k,.slice X.own.a X.own.n X.own.k,.int .i64 X.made],.agg #[.int .i64 b,.slice c.a c.n c.k]] W fun e w'=>e= .returned (.bool (changesB X b c))∧Below W.heap.size W w':=
 l2Changes_any X.id X.made X.b1 X.c1.a X.c1.n X.c1.k X.c1.f X.c1.g X.b2 X.c2.a X.c2.n X.c2.k X.c2.f X.c2.g X.own.a X.own.n X.own.k X.own.h b c.a c.n c.k c.f c.g W hX.1.1 hX.2.1.1 hX.2.2.1 hX.1.2 hX.2.1.2 hX.2.2.2 hc.1 hc.2 xs.1 hn r1 rc
def flowB(b:Int)(c:CatL)(o:IntL)(b':Int)(c':CatL):Bool:=flowsB b c.n c.f c.g o.n o.h b' c'.n c'.f c'.g
theorem flows_v(b:Int)(c:CatL)(o:IntL)(b':Int)(c':CatL)(W:World)(hc:c.at W)(ho:o.at W)(hc':c'.at W)(n1:c.n≤1048576)(n2:c'.n≤1048576)(r1:RiseL c)(r2:RiseL c'):
 Calls Tryz.prog 119 #[.agg #[.int .i64 b,.slice c.a c.n c.k],.slice o.a o.n o.k,.agg #[.int .i64 b',.slice c'.a c'.n c'.k]] W fun e w'=>e= .returned (.bool (flowB b c o b' c'))∧Below W.heap.size W w':=
 l1Flows_any _ _ _ _ c.f c.g _ _ _ o.h _ _ _ _ c'.f c'.g W n1 n2 ho.1 hc.2 hc'.2 ho.2 r1 r2
theorem has_v(o:IntL)(x:Int)(W:World)(ho:o.at W):
 Calls Tryz.prog 121 #[.slice o.a o.n o.k,.int .i64 x] W fun e w'=>e= .returned (.bool (hasB o.n o.h x))∧w'=W:=l1Has_any _ _ _ o.h x W ho.1 ho.2
def atL(lo:List ObjV)(x:Int):Option Nat:=findI (fun i=>(atOwnOb lo i).id) lo.length x
def atT(lt:List ThrV)(x:Int):Option Nat:=findI (fun i=>(atOwnT lt i).id) lt.length x
theorem atL_some{lo:List ObjV}{x:Int}{u:Nat}(h:atL lo x=some u):∃hu:u<lo.length,(lo[u]'hu).id=x:=by
 obtain⟨h1,h2⟩:=findI_some h;refine⟨h1,?_⟩;have e1:atOwnOb lo u=lo[u]:=by simp[atOwnOb,h1]
 rw[←e1];exact h2
theorem find_v{w:World}{B ca co:Nat}{ta oa:Option Addr}{lt:List ThrV}{lo:List ObjV}(h:KSt w B (.slice ta lt.length ca) (.slice oa lo.length co) lt lo)(h1:lt.length≤1048576)(h2:lo.length≤1048576)(h3:∀x∈lo,x.data.size≤maxLen)(x:Int):
 Calls Tryz.prog 79 #[.agg #[.slice ta lt.length ca,.slice oa lo.length co],.int .i64 x] w fun e w'=>e= .returned (.int .i64 (idxI (atL lo x)))∧Below w.heap.size w w':=l3Find_any (kOf ta ca oa co lt lo) x w (h.at h1 h2 h3)
theorem oL_kOf(ta:Option Addr)(ca:Nat)(oa:Option Addr)(co:Nat)(lt:List ThrV)(lo:List ObjV):(kOf ta ca oa co lt lo).oL lo.length=lo:=by
 refine List.ext_getElem (by simp[KerV.oL]) fun i h1 h2=>?_;simp[KerV.oL,kOf,atOwnOb,h2]
theorem add_v{w:World}{B ca co:Nat}{ta oa:Option Addr}{lt:List ThrV}{lo:List ObjV}(h:KSt w B (.slice ta lt.length ca) (.slice oa lo.length co) lt lo)(h1:lt.length≤1048576)(h2:lo.length≤1048000)(h3:∀x∈lo,x.data.size≤maxLen)(o:ObjV):
 Calls Tryz.prog 123 #[.agg #[.slice ta lt.length ca,.slice oa lo.length co],.agg #[.int .i64 o.id,.int .i64 o.kind,.int .i64 o.up,.int .i64 o.b1,.slice o.c1.a o.c1.n o.c1.k,.string o.data,.slice o.items.a o.items.n o.items.k,.slice o.own.a o.own.n o.own.k,.int .i64 o.b2,.slice o.c2.a o.c2.n o.c2.k]] w fun e w'=>∃(ob:Option Addr) (cb:Nat),e= .returned (.agg #[.slice ta lt.length ca,.slice ob (insL o lo).length cb])∧OwnOb w' w.heap.size (.slice ob (insL o lo).length cb) (insL o lo)∧Below w.heap.size w w':=by
 have:=l4Add_any (kOf ta ca oa co lt lo) o w (h.at h1 (by omega) h3) h2;have e:(kOf ta ca oa co lt lo).oL (kOf ta ca oa co lt lo).on=lo:=oL_kOf ta ca oa co lt lo;rw[e]at this;exact this
def madeB(X:ThrV)(s:StepV)(lo:List ObjV):Bool:=
 match atL lo s.id with
 |none=>false
 |some u=>decide ((atOwnOb lo u).kind=3)&&changesB X (atOwnOb lo u).b1 (atOwnOb lo u).c1&&flowB X.b1 X.c1 X.own s.b1 s.c1&&flowB s.b1 s.c1 X.own X.b2 X.c2&&(!decide (0<s.cat)||hasB X.own.n X.own.h s.cat)
theorem l4None_any(base:Int)(a:Option Addr)(n cap:Nat)(w:World)(hn:n≤maxLen):
 Calls Tryz.prog 117 #[.agg #[.int .i64 base,.slice a n cap]] w fun e w'=>e= .returned (.bool (zeroB base n))∧Below w.heap.size w w':=by
 unfold maxLen at hn;have hb0:=(Below.refl _ w).alloc (Nat.le_refl _) (.cells #[.int .i64 base,.slice a n cap] 30);cases t:(base==0)with
 |true=>
  go_enter Tryz.func117,Tryz.ntmps117
  go_wp2;go_ret;refine⟨ret_bool ?_,hb0⟩;unfold zeroB;rw[t,Bool.true_and];by_cases e:n=0
  ·subst e;rfl
  ·have e1:(n==0)=false:=(by simpa using e);rw[e1];simp;omega
 |false=>
  go_enter Tryz.func117,Tryz.ntmps117
  go_wp2;go_ret;exact⟨ret_bool (by simp[zeroB,t]),hb0⟩
def noText(d:ByteArray):Bool:=d.toList.isEmpty
def stepC(ok ui ut uc ud ul ue:Bool)(th kind id to' cat:Int)(d:ByteArray)(lo zl co zc:Bool):Bool:=
 ok&&inB th 1 9&&lo&&(ul||zl)&&co&&(ue||zc)&&plainB d 40&&(ud||noText d)&&numB id ui&&numB to' ut&&catB kind cat uc
def stepOk(th kind id to' cat:Int)(d:ByteArray)(bl:Int)(nl:Nat)(fl gl:Nat→Int)(bc:Int)(nc:Nat)(fc gc:Nat→Int):Bool:=
 stepC (uOk kind) (uId kind) (uTo kind) (uCat kind) (uData kind) (uLabel kind) (uClear kind) th kind id to' cat d (labOk bl nl fl gl) (zeroB bl nl) (labOk bc nc fc gc) (zeroB bc nc)
def okL(lt:List ThrV)(lo:List ObjV):Bool:=kerOk (kOf none 0 none 0 lt lo)
theorem atOwnT_get{lt:List ThrV}{i:Nat}(h:i<lt.length):atOwnT lt i=lt[i]:=by simp[atOwnT,h]
theorem atOwnOb_get{lo:List ObjV}{i:Nat}(h:i<lo.length):atOwnOb lo i=lo[i]:=by simp[atOwnOb,h]
theorem lab_rise{b:Int}{c:CatL}(h:labOk b c.n c.f c.g=true):RiseL c∧c.n≤12:=by
 unfold labOk at h;simp only[Bool.and_eq_true,decide_eq_true_eq,List.all_eq_true,List.mem_range]at h;obtain⟨⟨_,hn⟩,ha⟩:=h;refine⟨?_,hn⟩;intro j hj;induction j with
 |zero=>intro i hi;omega
 |succ j ih=>
  intro i hi;have h1:=ha (j+1) hj;unfold catOk at h1;simp only[Bool.and_eq_true,Bool.or_eq_true,decide_eq_true_eq,beq_iff_eq]at h1;have h2:c.f j<c.f (j+1):=by
   rcases h1.2 with e|e
   ·omega
   ·simpa using e
  by_cases e:i=j
  ·subst e;exact h2
  ·have:=ih (by omega) i (by omega);omega
structure ThrF(x:ThrV):Prop where
 id:1≤x.id∧x.id≤9
 l1:labOk x.b1 x.c1.n x.c1.f x.c1.g=true
 l2:labOk x.b2 x.c2.n x.c2.f x.c2.g=true
 own:ownOk x.own.n x.own.h=true
 made:0≤x.made∧x.made≤30
theorem thrF_iff{x:ThrV}:thrOkV x=true↔ThrF x:=by
 unfold thrOkV thrOk;simp only[Bool.and_eq_true,inB_iff];exact⟨fun⟨⟨⟨⟨a,b⟩,c⟩,d⟩,e⟩=>⟨a,b,c,d,e⟩,fun h=>⟨⟨⟨⟨h.id,h.l1⟩,h.l2⟩,h.own⟩,h.made⟩⟩
theorem own_n{n:Nat}{h:Nat→Int}(e:ownOk n h=true):n≤10:=by
 unfold ownOk at e;simp only[Bool.and_eq_true,decide_eq_true_eq]at e;exact e.1
theorem ThrF.small{x:ThrV}(h:ThrF x):x.small:=⟨by have:=(lab_rise h.l1).2;omega,by have:=(lab_rise h.l2).2;omega,by have:=own_n h.own;omega⟩
structure ObjF(x:ObjV):Prop where
 l1:labOk x.b1 x.c1.n x.c1.f x.c1.g=true
 l2:labOk x.b2 x.c2.n x.c2.f x.c2.g=true
 own:ownOk x.own.n x.own.h=true
 data:plainB x.data 40=true
 items:itemsB x.items.n x.items.f=true
 kind:kindB x=true
theorem objF_iff{x:ObjV}:objOk x=true↔ObjF x:=by
 unfold objOk;simp only[Bool.and_eq_true];exact⟨fun⟨⟨⟨⟨⟨a,b⟩,c⟩,d⟩,e⟩,f⟩=>⟨a,b,c,d,e,f⟩,fun h=>⟨⟨⟨⟨⟨h.l1,h.l2⟩,h.own⟩,h.data⟩,h.items⟩,h.kind⟩⟩
theorem plain_size{d:ByteArray}(h:plainB d 40=true):d.size≤40:=by
 unfold plainB at h;simp only[Bool.and_eq_true,decide_eq_true_eq]at h;omega
section
variable {lt:List ThrV}{lo:List ObjV} (ok:okL lt lo=true)
include ok
theorem okL_tn:1≤lt.length∧lt.length≤9:=by
 have h:=thrsOk_out (kerOk_parts ok).1;exact⟨h.1,h.2.1⟩
theorem okL_on:1≤lo.length∧lo.length≤271:=by
 have h:=objsOk_out (kerOk_parts ok).2.1;exact⟨h.1,h.2.1⟩
theorem okL_thr:∀x∈lt,ThrF x:=fun x hx=>by
 obtain⟨i,hi,e⟩:=List.mem_iff_getElem.1 hx;have h:=(thrsOk_out (kerOk_parts ok).1).2.2 i hi;unfold thrAt at h;simp only[Bool.and_eq_true]at h;have e2:(kOf none 0 none 0 lt lo).T i=x:=(atOwnT_get hi).trans e;rw[e2]at h;exact thrF_iff.1 h.1
theorem okL_obj:∀x∈lo,ObjF x:=fun x hx=>by
 obtain⟨i,hi,e⟩:=List.mem_iff_getElem.1 hx;have h:=(objsOk_out (kerOk_parts ok).2.1).2.2.1 i hi;unfold objAt at h;simp only[Bool.and_eq_true]at h;have e2:(kOf none 0 none 0 lt lo).O i=x:=(atOwnOb_get hi).trans e;rw[e2]at h;exact objF_iff.1 h.1
theorem okL_id:∀x∈lo,0≤x.id∧x.id≤1000000:=fun x hx=>by
 obtain⟨i,hi,e⟩:=List.mem_iff_getElem.1 hx;have k:=kerOk_iff.1 ok;have e2:(kOf none 0 none 0 lt lo).O i=x:=(atOwnOb_get hi).trans e;by_cases h0:i=0
 ·subst h0;have r:=k.root;rw[e2]at r;unfold rootB at r;simp only[Bool.and_eq_true,beq_iff_eq]at r;omega
 ·have h:=k.num i (by omega) hi;rw[e2]at h;obtain⟨t,h1,h2,h3,h4⟩:=numAt_parts k.thr h;have e3:(kOf none 0 none 0 lt lo).T t=lt[t]:=atOwnT_get h1;rw[e3]at h2 h4;have f:=okL_thr ok _ (List.getElem_mem h1);have:=f.id;have:=f.made;omega
theorem okL_data:∀x∈lo,x.data.size≤maxLen:=fun x hx=>by
 have:=plain_size (okL_obj ok x hx).data;unfold maxLen;omega
theorem okL_items:∀x∈lo,x.items.n≤8∧∀i,i<x.items.n→plainB (x.items.f i) 40=true:=fun x hx=>by
 have h:=(okL_obj ok x hx).items;unfold itemsB at h;simp only[Bool.and_eq_true,decide_eq_true_eq,List.all_eq_true,List.mem_range]at h;exact⟨by omega,h.2⟩
end
def StepV.ok(s:StepV):Bool:=stepOk s.th s.kind s.id s.to s.cat s.data s.b1 s.c1.n s.c1.f s.c1.g s.b2 s.c2.n s.c2.f s.c2.g
structure StepF(s:StepV):Prop where
 kind:1≤s.kind∧s.kind≤15
 l1:labOk s.b1 s.c1.n s.c1.f s.c1.g=true
 l2:labOk s.b2 s.c2.n s.c2.f s.c2.g=true
 data:plainB s.data 40=true
 cat:catB s.kind s.cat (uCat s.kind)=true
 id:numB s.id (uId s.kind)=true
theorem stepF{s:StepV}(h:s.ok=true):StepF s:=by
 unfold StepV.ok stepOk stepC at h;simp only[Bool.and_eq_true]at h;obtain⟨⟨⟨⟨⟨⟨⟨⟨⟨⟨a,b⟩,c⟩,d⟩,e⟩,f⟩,g⟩,i⟩,j⟩,k⟩,l⟩:=h;refine⟨?_,c,e,g,l,j⟩;unfold uOk at a;simp only[Bool.or_eq_true,beq_iff_eq]at a;omega
structure StF(lt:List ThrV)(lo:List ObjV):Prop where
 tn:1≤lt.length∧lt.length≤9
 on:1≤lo.length∧lo.length≤271
 data:∀x∈lo,x.data.size≤maxLen
 id:∀x∈lo,0≤x.id∧x.id≤1000000
 thr:∀x∈lt,ownOk x.own.n x.own.h=true∧labOk x.b1 x.c1.n x.c1.f x.c1.g=true
theorem StF.of{lt:List ThrV}{lo:List ObjV}(h:okL lt lo=true):StF lt lo:=⟨okL_tn h,okL_on h,okL_data h,okL_id h,fun x hx=>⟨(okL_thr h x hx).own,(okL_thr h x hx).l1⟩⟩
end Go.Proofs.YtallmkehpfaaeaaGreatDoor
