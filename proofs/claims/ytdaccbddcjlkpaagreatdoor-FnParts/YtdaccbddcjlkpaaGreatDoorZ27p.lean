import Derived.Laws.LoneSync
import Derived.Test.YtdaccbddcjlkpaaGreatDoorDWSp
set_option maxRecDepth 100000
set_option maxHeartbeats 16000000
namespace Go.Proofs.YtdaccbddcjlkpaaGreatDoor
open Go Go.RowKit Go.Deep Go.Maps Go.BigFrame Go.Shelf Go.Proofs.Tryz
open Go.Value renaming agg→qY
open Go.Region renaming wanted→jW
open _root_.List renaming map_toArray→xZ,map_nil→xB
open Go renaming World→qM,Value→qB
theorem XU(v:qB)(W:qM):(method 446 250 (qY #[v]) "loop.example/g00272/impl.takes").run prog W= .ok (282,qY #[v]) W:=by kernel_rfl
theorem YI(v:qB)(W:qM):(nilAhead 446 250 (qY #[v]) "loop.example/g00272/impl.takes").run prog W= .ok (some false) W:=by kernel_rfl
theorem XP(v:qB)(W:qM):(method 446 250 (qY #[v]) "loop.example/g00272/impl.label").run prog W= .ok (198,qY #[v]) W:=by kernel_rfl
theorem Xo(v:qB)(W:qM):(method 446 252 (qY #[v]) "loop.example/g00272/impl.takes").run prog W= .ok (283,qY #[v]) W:=by kernel_rfl
theorem Xq(v:qB)(W:qM):(nilAhead 446 252 (qY #[v]) "loop.example/g00272/impl.takes").run prog W= .ok (some false) W:=by kernel_rfl
theorem Ye(v:qB)(W:qM):(method 446 252 (qY #[v]) "loop.example/g00272/impl.label").run prog W= .ok (198,qY #[v]) W:=by kernel_rfl
theorem Yb(v:qB)(W:qM):(method 446 254 (qY #[v]) "loop.example/g00272/impl.takes").run prog W= .ok (284,qY #[v]) W:=by kernel_rfl
theorem Xs(v:qB)(W:qM):(nilAhead 446 254 (qY #[v]) "loop.example/g00272/impl.takes").run prog W= .ok (some false) W:=by kernel_rfl
theorem XG(v:qB)(W:qM):(method 446 254 (qY #[v]) "loop.example/g00272/impl.label").run prog W= .ok (198,qY #[v]) W:=by kernel_rfl
theorem Yr(v:qB)(W:qM):(method 446 256 (qY #[v]) "loop.example/g00272/impl.takes").run prog W= .ok (285,qY #[v]) W:=by kernel_rfl
theorem Yk(v:qB)(W:qM):(nilAhead 446 256 (qY #[v]) "loop.example/g00272/impl.takes").run prog W= .ok (some false) W:=by kernel_rfl
theorem Xw(v:qB)(W:qM):(method 446 256 (qY #[v]) "loop.example/g00272/impl.label").run prog W= .ok (198,qY #[v]) W:=by kernel_rfl
theorem LJ{ops:Array Oper}{o:Oper}{a:Act}{w:qM}{K:Act->qM->Prop}{Q:Exit->Act->qM->Prop}{E:Prop}(hw:jW o (yielded ops a.tmps)=true)(x:Operand)(nm:String)(ats:Array TypeId)
 (ho:o.op= .call {callee:= .invoke x nm,args:=#[],argTypes:=ats})(T:TypeId)(v r:qB)(f:Nat)(hv:a.eval x= .iface T v)(hm:∀W,(method 446 T v nm).run prog W= .ok (f,r) W)(eg:∀args w,(callFunc f args).run prog w= .ok (.enter f args) w)
 (d:Option Nat)(hd:o.dst=d)(R:qB->qM->Prop)(hc:Calls prog f #[r] w fun e w'=>∃v,e= .returned v/\R v w')(h:∀v w',R v w'->K (a.put d v) w'):
 if jW o (yielded ops a.tmps)=true then Oper.wp prog o a w K Q else E:=by
 rw[if_pos hw];have e:(execOp a.eval o).run prog w= .ok (.enter f #[r]) w:=by
  unfold execOp;simp only[ho,resolve,invoke,callMethod,Sem.run_bind,xZ,xB,hv];simp[go_sem,hm,eg]
 unfold Oper.wp;rw[e,Oper.upon_enter];exact hc.mono fun e w' ⟨v,he,hr⟩=>by subst he;rw[hd];exact h v w' hr
theorem Ss{ops:Array Oper}{o:Oper}{a:Act}{w:qM}{K:Act->qM->Prop}{Q:Exit->Act->qM->Prop}{E:Prop}(hw:jW o (yielded ops a.tmps)=true)(x y:Operand)(nm:String)(ats:Array TypeId)
 (ho:o.op= .call {callee:= .invoke x nm,args:=#[y],argTypes:=ats})(T:TypeId)(v r:qB)(f:Nat)(hv:a.eval x= .iface T v)(hm:∀W,(method 446 T v nm).run prog W= .ok (f,r) W)(eg:∀args w,(callFunc f args).run prog w= .ok (.enter f args) w)(v1:qB)(hv1:a.eval y=v1)
 (d:Option Nat)(hd:o.dst=d)(R:qB->qM->Prop)(hc:Calls prog f #[r,v1] w fun e w'=>∃v,e= .returned v/\R v w')(h:∀v w',R v w'->K (a.put d v) w'):
 if jW o (yielded ops a.tmps)=true then Oper.wp prog o a w K Q else E:=by
 rw[if_pos hw];have e:(execOp a.eval o).run prog w= .ok (.enter f #[r,v1]) w:=by
  unfold execOp;simp only[ho,resolve,invoke,callMethod,Sem.run_bind,xZ,List.map_cons,xB,hv,hv1];simp[go_sem,hm,eg]
 unfold Oper.wp;rw[e,Oper.upon_enter];exact hc.mono fun e w' ⟨v,he,hr⟩=>by subst he;rw[hd];exact h v w' hr
open Go.Value renaming pointer→pT,bool→qU
open Go.Obj renaming cells→qG
open _root_.List renaming set→qF
open _root_.Bool renaming or_eq_true→xN
open Go.RowKit renaming Below→qN
theorem WL{X:Ae}{s:Aj}{lt:List Ae}{lo:List Ab}{t:Nat}(hk:s.kind=6∨s.kind=7∨s.kind=8∨s.kind=9∨s.kind=10∨s.kind=13∨s.kind=15)(h:BF X lo s.id (IL s.kind)=none):GC X s lt lo t 4 ⟨#[]⟩ lt lo:=by
 rcases hk with hk|hk|hk|hk|hk|hk|hk
 ·exact .k6 hk (.inl ⟨by rw[hk]at h;exact h,rfl,rfl,rfl,rfl⟩)
 ·exact .k7 hk (.inl ⟨by rw[hk]at h;exact h,rfl,rfl,rfl,rfl⟩)
 ·exact .k8 hk (.inl ⟨by rw[hk]at h;exact h,rfl,rfl,rfl,rfl⟩)
 ·exact .k9 hk (.inl ⟨by rw[hk]at h;exact h,rfl,rfl,rfl,rfl⟩)
 ·exact .k10 hk (.inl ⟨by rw[hk]at h;exact h,rfl,rfl,rfl,rfl⟩)
 ·exact .k13 hk (.inl ⟨by rw[hk]at h;exact h,rfl,rfl,rfl,rfl⟩)
 ·exact .k15 hk (.inl ⟨by rw[hk]at h;exact h,rfl,rfl,rfl,rfl⟩)
theorem eP{X:Ae}{s:Aj}{lt:List Ae}{lo:List Ab}{t u:Nat}(hk:s.kind=6∨s.kind=9∨s.kind=10)(h:BF X lo s.id (IL s.kind)=some u)(hc:Ap X (Aa lo u).b1 (Aa lo u).c1=false):GC X s lt lo t 4 ⟨#[]⟩ lt lo:=by
 rcases hk with hk|hk|hk
 ·exact .k6 hk (.inr ⟨u,by rw[hk]at h;exact h,.inl ⟨hc,rfl,rfl,rfl,rfl⟩⟩)
 ·exact .k9 hk (.inr ⟨u,by rw[hk]at h;exact h,.inl ⟨hc,rfl,rfl,rfl,rfl⟩⟩)
 ·exact .k10 hk (.inr ⟨u,by rw[hk]at h;exact h,.inl ⟨hc,rfl,rfl,rfl,rfl⟩⟩)
def Kd(s:Aj)(kd:Int)(T f:Nat)(tk:Bool):Prop:=
 (kd=1/\T=250/\f=282/\tk=(s.kind==6||s.kind==7||s.kind==8))∨(kd=2/\T=252/\f=283/\tk=(s.kind==9||s.kind==10))∨(kd=3/\T=254/\f=284/\tk=(s.kind==15))∨(kd=4/\T=256/\f=285/\tk=(s.kind==13))
theorem fC{s:Aj}{o:Ab}(h:NY o):∃T f tk,Fb o.kind=T/\Kd s o.kind T f tk:=by
 have hk:=h.kind;unfold Hp at hk;by_cases h1:o.kind=1
 ·exact⟨_,_,_,by rw[h1];rfl,.inl ⟨h1,rfl,rfl,rfl⟩⟩
 ·by_cases h2:o.kind=2
  ·exact⟨_,_,_,by rw[h2];rfl,.inr (.inl ⟨h2,rfl,rfl,rfl⟩)⟩
  ·by_cases h3:o.kind=3
   ·exact⟨_,_,_,by rw[h3];rfl,.inr (.inr (.inl ⟨h3,rfl,rfl,rfl⟩))⟩
   ·by_cases h4:o.kind=4
    ·exact⟨_,_,_,by rw[h4];rfl,.inr (.inr (.inr ⟨h4,rfl,rfl,rfl⟩))⟩
    ·rw[if_neg h1,if_neg h2,if_neg h3,if_neg h4]at hk;cases hk
theorem Kd.meth{s:Aj}{kd:Int}{T f:Nat}{tk:Bool}(h:Kd s kd T f tk)(v:Value):(∀W,(method 446 T (qY #[v]) "loop.example/g00272/impl.takes").run prog W= .ok (f,qY #[v]) W)/\(∀W,(method 446 T (qY #[v]) "loop.example/g00272/impl.label").run prog W= .ok (198,qY #[v]) W)/\(∀args w,(callFunc f args).run prog w= .ok (.enter f args) w)/\(∀W,Calls prog f #[qY #[v],s.kind] W fun e w'=>∃r,e= .returned r/\(r= qU tk/\qN W W w'))/\(∀W,(nilAhead 446 T (qY #[v]) "loop.example/g00272/impl.takes").run prog W= .ok (some false) W):=by
 rcases h with⟨_,rfl,rfl,rfl⟩|⟨_,rfl,rfl,rfl⟩|⟨_,rfl,rfl,rfl⟩|⟨_,rfl,rfl,rfl⟩
 ·exact⟨XU v,XP v,enters_of func282 kR rfl,fun W=>(Lv v s.kind W).mono fun _ _ h=>⟨_,h.1,rfl,h.2⟩,YI v⟩
 ·exact⟨Xo v,Ye v,enters_of func283 kR rfl,fun W=>(Ns v s.kind W).mono fun _ _ h=>⟨_,h.1,rfl,h.2⟩,Xq v⟩
 ·exact⟨Yb v,XG v,enters_of func284 kR rfl,fun W=>(Qt v s.kind W).mono fun _ _ h=>⟨_,h.1,rfl,h.2⟩,Xs v⟩
 ·exact⟨Yr v,Xw v,enters_of func285 kR rfl,fun W=>(Pf v s.kind W).mono fun _ _ h=>⟨_,h.1,rfl,h.2⟩,Yk v⟩
theorem Kd.no{s:Aj}{kd:Int}{T f:Nat}(h:Kd s kd T f false)(hk:s.kind=6∨s.kind=7∨s.kind=8∨s.kind=9∨s.kind=10∨s.kind=13∨s.kind=15):kd≠IL s.kind:=by
 unfold Kd at h;rcases hk with hk|hk|hk|hk|hk|hk|hk<;>rw[hk]at h ⊢ <;>rcases h with⟨rfl,_,_,h⟩|⟨rfl,_,_,h⟩|⟨rfl,_,_,h⟩|⟨rfl,_,_,h⟩<;>revert h<;>decide
theorem Kd.yes{s:Aj}{kd:Int}{T f:Nat}(h:Kd s kd T f true)(hk:s.kind=6∨s.kind=7∨s.kind=8∨s.kind=9∨s.kind=10∨s.kind=13∨s.kind=15):kd=IL s.kind:=by
 unfold Kd at h;rcases hk with hk|hk|hk|hk|hk|hk|hk<;>rw[hk]at h ⊢ <;>rcases h with⟨rfl,_,_,h⟩|⟨rfl,_,_,h⟩|⟨rfl,_,_,h⟩|⟨rfl,_,_,h⟩<;>revert h<;>decide
section
variable {E:Nat->Addr}{w:World}{B P:Nat}{s:Aj}{g ca q co:Nat}{lt:List Ae}{lo:List Ab}{t c C:Nat}{nb:Nat->Nat}{kv:Nat->Value}{K:Nat->List Int}{X:Ae}
theorem cg(v:Env E w B P s g ca q co lt lo t c C nb kv K X)(hk:s.kind=6∨s.kind=7∨s.kind=8∨s.kind=9∨s.kind=10∨s.kind=13∨s.kind=15):
 Calls prog 148 #[pT P] w fun e w'=>∃tx r,e= .returned (.tuple #[.string tx,r])/\Kz E B P s lt lo t X (.map (some c)) w w' tx r:=by
 have VV:=qC v;obtain⟨⟨k0,k1,k2,k3,k4,k5,k6,k7,k8,k9⟩,k10,k11,k12,k13⟩:=v.h.wk.jZ;have TH:=qC (Jw w B P s g ca q co lt lo t c C lo.length _ nb kv K v.h v.n nr (Cx v.ok) s.id (gv (Hu v.so)));have HK:=qC hk;clear v hk;go_enter func148,ntmps148
 go_wp2_with fail
 refine TH.out.mono ?_;rintro e w1 ⟨hr,b1⟩;have A1:=qC b1;clear TH b1 k0 k1 k2 k3 k4 k5 k6 k7 k8 k9 k10 k11 k12 k13;rcases hr with⟨hf,rfl⟩|⟨u,hf,rfl⟩
 ·have AN:Hid (GC X s lt lo t 4 ⟨#[]⟩ lt lo):=qC (WL HK (by unfold BF;rw[show Hq lo s.id=none from hf]));clear hf;have D0:=qC (Below.refl w1 w1).drew;have A2:=qC (Af A1 D0);go_upto_region 2 with fail
  refine Am 16 (fun W=>qN w1 w1 W) kR ?_;refine tr 0 17 (.nilIface) D0 ?_;refine tr 1 18 (qU true) D0 ?_;refine tr 2 19 (qU true) D0 ?_;refine Qx 11 [(3,20),(4,21),(5,22),(6,23),(7,24),(8,25),(9,26),(10,27),(11,28),(12,29),(13,30)] rfl kR D0 ?_;simp only[Fh,ap,qF];refine tr 14 31 (qU true) D0 ?_;refine tr 15 16 (qU true) D0 ?_;refine Ai kR ?_ _;have e9:=((VV.out.below A2).e 6 qQ qQ).1;have sz:=(VV.out.below A2).hB;go_wp2_with fail
  refine(Bv 314 (pT (some (E 6))) _).mono ?_;rintro e w9 ⟨rfl,rfl⟩;go_wp2;go_ret2;have b3:=Af A2 (Bg _ (qG #[.int .i64 4,.iface 314 (pT (some (E 6)))] 145));exact⟨_,_,rfl,.no (.of (VV.out.below b3).h.wk) (b3.mono VV.out.hB) (Cz _ E sz 4 qX 6 qX qX qX qZ) qX (AN)⟩
 ·obtain⟨ul,_⟩:=AH hf;have HF:Hid (Hq lo s.id=some u):=qC hf;obtain⟨T,f,tk,et,HKd⟩:=fC (s:=s) (VV.out.obj ul);rw[et];have KD:=qC HKd;obtain⟨MT,ML,EN,TK,NA⟩:=HKd.meth (pT (some ⟨q,u*10,none⟩));have HNA:=qC NA;have HMT:=qC MT;have HML:=qC ML;have HEN:=qC EN;have HTK:=qC TK;clear hf et HKd MT ML EN TK NA;have EL:Hid (∀args w,(callFunc 198 args).run prog w= .ok (.enter 198 args) w):=qC (enters_of func198 kR rfl);have ES:Hid (∀args w,(callFunc 183 args).run prog w= .ok (.enter 183 args) w):=qC (enters_of func183 kR rfl);have EC:Hid (∀args w,(callFunc 175 args).run prog w= .ok (.enter 175 args) w):=qC (enters_of func175 kR rfl);have EW:Hid (∀args w,(callFunc 184 args).run prog w= .ok (.enter 184 args) w):=qC (enters_of func184 kR rfl);have BX:Hid (∀W,qN w1 w1 W->Ag W P (qG (IN s g lt.length ca q lo.length co t (.map (some c))) 175)/\FA W g (t*7) X):=qC (fun W hW=>by
   have V:=VV.out.below (Af A1 hW);have C:=(V.h.st.jJ V.ht).1;rw[<-V.hX]at C;exact⟨V.h.wk,C⟩)
  have n1:Na #[pT (some ⟨q,u*10,none⟩)]:=⟨⟩;have PL:Hid (∀W,qN w1 w1 W->Calls prog 198 #[qY n1] W fun e w'=>∃v,e= .returned v/\(v= qY #[.int .i64 (Aa lo u).b1,.slice (Aa lo u).c1.a (Aa lo u).c1.n (Aa lo u).c1.k]/\qN W W w')):=qC (fun W hW=>by
   have V:=VV.out.below (Af A1 hW);obtain⟨CO,ql⟩:=V.h.st.jF ul (Cx V.ok);rw[<-AL ul]at CO;exact(MC q (u*10) (Aa lo u).b1 (Aa lo u).c1 W ql CO.c3 CO.c4).mono fun _ _ h=>⟨_,h.1,rfl,h.2⟩)
  have D0:=qC (Below.refl w1 w1).drew;go_upto_region 2 with fail
  refine Am 16 (fun W=>qN w1 w1 W) kR ?_;refine tr 0 17 (.iface T (qY n1)) D0 ?_;refine tr 1 18 (qU false) D0 ?_;refine tr 2 19 (qU false) D0 ?_;refine tr 3 20 (.iface T (qY n1)) D0 ?_;have n2:Nv (pT P):=⟨⟩;refine tr 4 21 n2 D0 ?_;refine tr 5 22 n2 D0 ?_;refine tr 6 23 n2 D0 ?_;have n6:Nv (pT (some ⟨P,1,none⟩)):=⟨⟩;refine tr 7 24 n6 D0 ?_;refine tr 8 25 (.int .i64 s.kind) D0 ?_ (hy:=fun W h=>by obtain⟨⟨k0,k1,k2,k3,k4,k5,k6,k7,k8,k9⟩,k10,k11,k12,k13⟩:=(BX W h).1.jZ;go_simp);refine tr 9 26 (.func (.method "loop.example/g00272/impl.takes") #[(.iface T (qY n1))] #[]) D0 ?_;refine tr 10 27 (.func (.method "loop.example/g00272/impl.takes") #[(.iface T (qY n1))] #[]) D0 ?_ (hy:=fun W h=>by have y:=HNA.out W;go_simp);refine tr 11 28 (.iface T (qY n1)) D0 ?_;refine Ac (i:=12) kR rfl ?_;intro K hK;refine Ss qK _ _ _ _ qK T _ _ f qK HMT HEN _ qK (some 29) qK _ (HTK _) ?_;rintro v w2 ⟨rfl,b2⟩;have V1:=qC (Af D0 b2);refine hK _ _ (fun _=>V1) ?_;clear hK K b2;simp only[ap,qF];refine tr 13 30 (qU (!tk)) V1 ?_;refine tr 14 31 (qU (!tk)) V1 ?_;refine tr 15 16 (qU (!tk)) V1 ?_;refine Ai kR ?_ _;have A2:=qC (Af A1 V1);cases tk with
  |false=>
   have AN:Hid (GC X s lt lo t 4 ⟨#[]⟩ lt lo):=qC (WL HK (by unfold BF;rw[HF.out];simp only;rw[if_neg (by simp[KD.out.no HK.out])]));have e9:=((VV.out.below A2).e 6 qQ qQ).1;have sz:=(VV.out.below A2).hB;go_wp2_with fail
   refine(Bv 314 (pT (some (E 6))) _).mono ?_;rintro e w9 ⟨rfl,rfl⟩;go_wp2;go_ret2;have b3:=Af A2 (Bg _ (qG #[.int .i64 4,.iface 314 (pT (some (E 6)))] 145));exact⟨_,_,rfl,.no (.of (VV.out.below b3).h.wk) (b3.mono VV.out.hB) (Cz _ E sz 4 qX 6 qX qX qX qZ) qX (AN)⟩
  |true=>
   have HW:=qC (KD.out.yes HK);go_upto_region 4 with fail
   have D1:=qC V1.out.drew;refine Am 11 (fun W=>qN w1 w1 W) kR ?_;refine tr 0 35 n2 D1 ?_;refine tr 1 36 n2 D1 ?_;have n5:Nv (pT (some ⟨P,12,none⟩)):=⟨⟩;refine tr 2 37 n5 D1 ?_;have n4:Nv (pT (some ⟨g,t*7,none⟩)):=⟨⟩;refine tr 3 38 n4 D1 ?_ (hy:=fun W h=>by obtain⟨⟨k0,k1,k2,k3,k4,k5,k6,k7,k8,k9⟩,k10,k11,k12,k13⟩:=(BX W h).1.jZ;go_simp);refine tr 4 39 n4 D1 ?_;have n3:Nv (qY X):=⟨⟩;refine tr 5 40 n3 D1 ?_ (hy:=fun W h=>by have C:=(BX W h).2;have y0:=C.c0;have y1:=C.c1;have y2:W.cell? ⟨g,t*7+2,none⟩=some (.slice X.c1.a X.c1.n X.c1.k):=C.c2;have y3:=C.c3;have y4:W.cell? ⟨g,t*7+4,none⟩=some (.slice X.c2.a X.c2.n X.c2.k):=C.c4;have y5:W.cell? ⟨g,t*7+5,none⟩=some (.slice X.own.a X.own.n X.own.k):=C.c5;have y6:=C.c6;go_simp);refine tr 6 41 (.iface T (qY n1)) D1 ?_;refine Ac (i:=7) kR rfl ?_;intro K hK;refine LJ qK _ _ _ qK T _ _ _ qK HML EL (some 42) qK _ (PL _ D1) ?_;rintro v w3 ⟨rfl,b3⟩;have V2:=qC (Af D1 b3);refine hK _ _ (fun _=>V2) ?_;clear hK K b3;simp only[ap,qF];have PS:=qC (Ez (VV.out.sees u ul _ (Af A1 V2)));refine Ac (i:=8) kR rfl ?_;intro K hK;refine Ay qK 183 _ _ _ qK ES _ _ qK qK (some 43) qK _ PS ?_;rintro v w4 ⟨rfl,b4⟩;have V3:=qC (Af V2 b4);refine hK _ _ (fun _=>V3) ?_;clear hK K b4 PS;simp only[ap,qF];refine tr 9 44 (qU (!H9 X (Aa lo u).b1 (Aa lo u).c1)) V3 ?_;refine tr 10 34 (qU (!H9 X (Aa lo u).b1 (Aa lo u).c1)) V3 ?_;refine Ai kR ?_ _;have A3:=qC (Af A1 V3);cases hs:H9 X (Aa lo u).b1 (Aa lo u).c1 with
   |false=>
    have AN:Hid (GC X s lt lo t 4 ⟨#[]⟩ lt lo):=qC (WL HK (by unfold BF;rw[HF.out];simp only;rw[if_neg (by simp[hs])]));clear hs;have e9:=((VV.out.below A3).e 11 qQ qQ).1;have sz:=(VV.out.below A3).hB;go_wp2_with fail
    refine(Bv 314 (pT (some (E 11))) _).mono ?_;rintro e w9 ⟨rfl,rfl⟩;go_wp2;go_ret2;have b3:=Af A3 (Bg _ (qG #[.int .i64 4,.iface 314 (pT (some (E 11)))] 145));exact⟨_,_,rfl,.no (.of (VV.out.below b3).h.wk) (b3.mono VV.out.hB) (Cz _ E sz 4 qX 11 qX qX qX qZ) qX (AN)⟩
   |true=>
    have HU:Hid (BF X lo s.id (IL s.kind)=some u):=qC (by unfold BF;rw[HF.out];simp only;rw[if_pos (by simp[hs,HW.out])]);clear hs;have V2:=V3;clear V1;go_upto_region 6 with fail
    have D2:=qC V2.out.drew;have PW:Hid (Calls prog 184 #[s.kind] w4.drew fun e w'=>∃v,e= .returned v/\(v= qU (s.kind==6||s.kind==9||s.kind==10)/\qN w4.drew.heap.size w4.drew w')):=qC ((Vu s.kind w4.drew).mono fun _ _ h=>⟨_,h.1,rfl,h.2⟩);refine Am 19 (fun W=>qN w1 w1 W) kR ?_;refine tr 0 48 n2 D2 ?_;refine tr 1 49 n2 D2 ?_;refine tr 2 50 n2 D2 ?_;refine tr 3 51 n6 D2 ?_;refine tr 4 52 (.int .i64 s.kind) D2 ?_ (hy:=fun W h=>by obtain⟨⟨k0,k1,k2,k3,k4,k5,k6,k7,k8,k9⟩,k10,k11,k12,k13⟩:=(BX W h).1.jZ;go_simp);refine Ac (i:=5) kR rfl ?_;intro K hK;refine An qK 184 _ _ qK EW _ qK (some 53) qK _ PW ?_;rintro v w5 ⟨rfl,b5⟩;have V3:=qC (Af D2 b5);refine hK _ _ (fun _=>V3) ?_;clear hK K b5 PW;simp only[ap,qF];refine tr 6 54 (qU (s.kind==6||s.kind==9||s.kind==10)) V3 ?_;cases hw:(s.kind==6||s.kind==9||s.kind==10)with
    |false=>
     refine Qx 10 [(7,55),(8,56),(9,57),(10,58),(11,59),(12,60),(13,61),(14,62),(15,63),(16,64)] rfl kR V3 ?_;simp only[Fh,ap,qF];refine tr 17 65 (qU false) V3 ?_;refine tr 18 47 (qU false) V3 ?_;refine Ai kR ?_ _;have A4:=qC (Af A1 V3);have NW:=qC hw;clear hw;rcases KD with⟨_,rfl,rfl,hq⟩|⟨_,rfl,rfl,hq⟩|⟨_,rfl,rfl,hq⟩|⟨_,rfl,rfl,hq⟩
     ·have HQ0:s.kind=7∨s.kind=8:=by
       have nw:=NW.out;have hq':(s.kind=6∨s.kind=7)∨s.kind=8:=(by simpa[xN]using hq.symm);rcases hq' with(h|h)|h
       ·exfalso;rw[h]at nw;revert nw;decide
       ·exact .inl h
       ·exact .inr h
      have HQ:=qC HQ0;clear hq HQ0;have eW:IL s.kind=1:=(by(rcases HQ with h|h<;>rw[h]<;>decide));have HU2:Hid (BF X lo s.id 1=some u):=qC (by rw[<-eW];exact HU.out);clear eW;have a0:=Rw 245 (qY n1) w5;have A5:=qC (Af A4 (Bg w5 (qG n1 250)));have CC:=qC (fV (VV.out.below A5) HU2 (.inr HQ));go_wp2_with fail
      refine CC.out.mono ?_;rintro e w9 ⟨tx,r,rfl,rp⟩;have RP:=qC (rp.from (A5.out.mono VV.out.hB));clear rp;go_wp2;go_ret2;exact⟨_,_,rfl,RP⟩
     ·exfalso;have nw:=NW.out;have hq':s.kind=9∨s.kind=10:=(by simpa[xN]using hq.symm);rcases hq' with h|h<;>rw[h]at nw<;>revert nw<;>decide
     ·have HQ0:s.kind=15:=by
       simpa using hq.symm
      have HQ:=qC HQ0;clear hq HQ0;have eW:IL s.kind=3:=(by(rw[HQ.out];decide));have HU2:Hid (BF X lo s.id 3=some u):=qC (by rw[<-eW];exact HU.out);clear eW;have a0:=Sn 245 254 (qY n1) w5 qX;have a1:=aj 245 254 (qY n1) w5 qX;have a2:=WX 245 (qY n1) w5;have A5:=qC (Af A4 (Bg w5 (qG n1 254)));have CC:=qC (gE (VV.out.below A5) HU2 HQ);go_wp2_with fail
      refine CC.out.mono ?_;rintro e w9 ⟨tx,rfl,rp⟩;have RP:=qC (rp.from (A5.out.mono VV.out.hB));clear rp;go_wp2;go_ret2;exact⟨_,_,rfl,RP⟩
     ·have HQ0:s.kind=13:=by
       simpa using hq.symm
      have HQ:=qC HQ0;clear hq HQ0;have eW:IL s.kind=4:=(by(rw[HQ.out];decide));have HU2:Hid (BF X lo s.id 4=some u):=qC (by rw[<-eW];exact HU.out);clear eW;have a0:=Sn 245 256 (qY n1) w5 qX;have a1:=aj 245 256 (qY n1) w5 qX;have a2:=YR 245 256 (qY n1) w5 qX;have a3:=bo 245 (qY n1) w5;have A5:=qC (Af A4 (Bg w5 (qG n1 256)));have CC:=qC (gC (VV.out.below A5) HU2 HQ);go_wp2_with fail
      refine CC.out.mono ?_;rintro e w9 ⟨r,rfl,rp⟩;have RP:=qC (rp.from (A5.out.mono VV.out.hB));clear rp;go_wp2;go_ret2;exact⟨_,_,rfl,RP⟩
    |true=>
     refine tr 7 55 n2 V3 ?_;refine tr 8 56 n2 V3 ?_;refine tr 9 57 n5 V3 ?_;refine tr 10 58 n4 V3 ?_ (hy:=fun W h=>by obtain⟨⟨k0,k1,k2,k3,k4,k5,k6,k7,k8,k9⟩,k10,k11,k12,k13⟩:=(BX W h).1.jZ;go_simp);refine tr 11 59 n4 V3 ?_;refine tr 12 60 n3 V3 ?_ (hy:=fun W h=>by have C:=(BX W h).2;have y0:=C.c0;have y1:=C.c1;have y2:W.cell? ⟨g,t*7+2,none⟩=some (.slice X.c1.a X.c1.n X.c1.k):=C.c2;have y3:=C.c3;have y4:W.cell? ⟨g,t*7+4,none⟩=some (.slice X.c2.a X.c2.n X.c2.k):=C.c4;have y5:W.cell? ⟨g,t*7+5,none⟩=some (.slice X.own.a X.own.n X.own.k):=C.c5;have y6:=C.c6;go_simp);refine tr 13 61 (.iface T (qY n1)) V3 ?_;refine Ac (i:=14) kR rfl ?_;intro K hK;refine LJ qK _ _ _ qK T _ _ _ qK HML EL (some 62) qK _ (PL _ V3) ?_;rintro v w6 ⟨rfl,b6⟩;have V4:=qC (Af V3 b6);refine hK _ _ (fun _=>V4) ?_;clear hK K b6;simp only[ap,qF];have PS:=qC (Ez (VV.out.changes u ul _ (Af A1 V4)));refine Ac (i:=15) kR rfl ?_;intro K hK;refine Ay qK 175 _ _ _ qK EC _ _ qK qK (some 63) qK _ PS ?_;rintro v w7 ⟨rfl,b7⟩;have V5:=qC (Af V4 b7);refine hK _ _ (fun _=>V5) ?_;clear hK K b7 PS;simp only[ap,qF];refine tr 16 64 (qU (!Ap X (Aa lo u).b1 (Aa lo u).c1)) V5 ?_;refine tr 17 65 (qU (!Ap X (Aa lo u).b1 (Aa lo u).c1)) V5 ?_;refine tr 18 47 (qU (!Ap X (Aa lo u).b1 (Aa lo u).c1)) V5 ?_;refine Ai kR ?_ _;have A4:=qC (Af A1 V5);have KW:Hid (s.kind=6∨s.kind=9∨s.kind=10):=qC (by simpa[xN,or_assoc]using hw);clear hw;cases hc:Ap X (Aa lo u).b1 (Aa lo u).c1 with
     |false=>
      have AN:Hid (GC X s lt lo t 4 ⟨#[]⟩ lt lo):=qC (eP KW HU hc);clear hc;have e9:=((VV.out.below A4).e 8 qQ qQ).1;have sz:=(VV.out.below A4).hB;go_wp2_with fail
      refine(Bv 314 (pT (some (E 8))) _).mono ?_;rintro e w9 ⟨rfl,rfl⟩;go_wp2;go_ret2;have b3:=Af A4 (Bg _ (qG #[.int .i64 4,.iface 314 (pT (some (E 8)))] 145));exact⟨_,_,rfl,.no (.of (VV.out.below b3).h.wk) (b3.mono VV.out.hB) (Cz _ E sz 4 qX 8 qX qX qX qZ) qX (AN)⟩
     |true=>
      have HC:=qC hc;clear hc;rcases KD with⟨_,rfl,rfl,hq⟩|⟨_,rfl,rfl,hq⟩|⟨_,rfl,rfl,hq⟩|⟨_,rfl,rfl,hq⟩
      ·have HQ0:s.kind=6:=by
        rcases KW with h|h|h<;>first|exact h|exact .inl h|exact .inr h|(exfalso;rw[h]at hq;revert hq;decide)
       have HQ:=qC HQ0;clear hq HQ0;have eW:IL s.kind=1:=(by(rw[HQ.out];decide));have HU2:Hid (BF X lo s.id 1=some u):=qC (by rw[<-eW];exact HU.out);clear eW;have a0:=Rw 245 (qY n1) w7;have A5:=qC (Af A4 (Bg w7 (qG n1 250)));have CC:=qC (fV (VV.out.below A5) HU2 (.inl ⟨HQ,HC⟩));go_wp2_with fail
       refine CC.out.mono ?_;rintro e w9 ⟨tx,r,rfl,rp⟩;have RP:=qC (rp.from (A5.out.mono VV.out.hB));clear rp;go_wp2;go_ret2;exact⟨_,_,rfl,RP⟩
      ·have HQ0:s.kind=9∨s.kind=10:=by
        rcases KW with h|h|h<;>first|exact h|exact .inl h|exact .inr h|(exfalso;rw[h]at hq;revert hq;decide)
       have HQ:=qC HQ0;clear hq HQ0;have eW:IL s.kind=2:=(by(rcases HQ with h|h<;>rw[h]<;>decide));have HU2:Hid (BF X lo s.id 2=some u):=qC (by rw[<-eW];exact HU.out);clear eW;have a0:=Sn 245 252 (qY n1) w7 qX;have a1:=cV 245 (qY n1) w7;have A5:=qC (Af A4 (Bg w7 (qG n1 252)));have CC:=qC (gA (VV.out.below A5) HU2 HC HQ);go_wp2_with fail
       refine CC.out.mono ?_;rintro e w9 ⟨tx,r,rfl,rp⟩;have RP:=qC (rp.from (A5.out.mono VV.out.hB));clear rp;go_wp2;go_ret2;exact⟨_,_,rfl,RP⟩
      ·exfalso;rcases KW with h|h|h<;>rw[h]at hq<;>revert hq<;>decide
      ·exfalso;rcases KW with h|h|h<;>rw[h]at hq<;>revert hq<;>decide
end
section
variable {E:Nat->Addr}{w W:World}{B P:Nat}{s:Aj}{g ca q co:Nat}{lt:List Ae}{lo:List Ab}{t c C:Nat}{nb:Nat->Nat}{kv:Nat->Value}{K:Nat->List Int}{X:Ae}
theorem PG.no{m:Value}{w':World}{tx:ByteArray}{r:Value}{c:Int}(kp:KP w' P)(hb:Below B w w')(ht:Told w' B E r c)(hc:c≠0)(ha:GC X s lt lo t c ⟨#[]⟩ lt lo):PG E B P s lt lo t X m w w' tx r:=⟨hb,.inl ⟨kp,c,ht,hc,ha⟩⟩
theorem PG.yes{m:Value}{w':World}{tx:ByteArray}{lt':List Ae}{lo':List Ab}{g' ca' q' co':Nat}(hb:Below B w w')(hs:Pk w' B P s g' ca' q' co' lt' lo' t m)(ha:GC X s lt lo t 0 tx lt' lo'):PG E B P s lt lo t X m w w' tx .nilIface:=⟨hb,.inr ⟨rfl,_,_,_,_,_,_,_,hs,Jm.refl _,ha⟩⟩
theorem Env.sameT(v:Env E w B P s g ca q co lt lo t c C nb kv K X):lt.set t X=lt:=by rw[v.hX,FE]
theorem gG(v:Env E w B P s g ca q co lt lo t c C nb kv K X)(h18:18<=B)(hk:s.kind=1):
 Calls prog 143 #[.pointer P] w fun e w'=>∃tx r,e= .returned (.tuple #[.string tx,r])/\PG E B P s lt lo t X (.map (some c)) w w' tx r:=by
 have i:=v.thr.id;have m:=v.thr.made;have o:=JH v.thr.own;by_cases hf:X.made=30∨X.own.n=10
 ·refine(Rz E w B P s g ca q co lt lo t _ v.h v.e v.hB v.ht X v.hX hf).mono ?_;rintro e w' ⟨r,rfl,h1,h2,h3⟩;exact⟨_,r,rfl,.no (.of h1.wk) h2 h3 qX (.k1 hk X v.sameT.symm rfl (.inl ⟨rfl,hf,rfl,rfl⟩))⟩
 ·have h1:X.made≠30:=fun e=>hf (.inl e);have h2:X.own.n≠10:=fun e=>hf (.inr e);refine(Uk w B P s g ca q co lt lo t _ v.h v.hB v.ht X v.hX h1 h2 qQ qQ qQ ⟨(Dd (Aw X).toNat).toArray⟩ (fun W hW=>J0 (Aw X) W (by unfold Aw;omega) (by unfold Aw;omega) (v.tab.lowB hW h18))).mono ?_;rintro e w' ⟨a,cc,L,hL,rfl,hs,hb⟩;rw[S9 (Vo v.thr.own)]at hL;subst hL;exact⟨_,_,rfl,.yes hb hs.f (.k1 hk _ rfl rfl (.inr ⟨rfl,hf,rfl,a,cc,rfl⟩))⟩
theorem fe(v:Env E w B P s g ca q co lt lo t c C nb kv K X)(hk:s.kind=12):
 Calls prog 146 #[.pointer P] w fun e w'=>∃r,e= .returned r/\PG E B P s lt lo t X (.map (some c)) w w' ⟨#[]⟩ r:=by
 have sf:=Hu v.so;refine(YG E w B P s g ca q co lt lo t _ v.h v.e v.h14 v.hB v.hs v.ht X v.hX (El X.b1 X.c1 X.own s.b1 s.c1) (El s.b1 s.c1 X.own X.b2 X.c2) (fun W hW=>LZ (v.xat.below hW).1 (v.xat.below hW).2.2 (v.hs W (hW.mono v.hB)).1 v.thr.l1 v.thr.own sf.l1) (fun W hW=>LZ (v.hs W (hW.mono v.hB)).1 (v.xat.below hW).2.2 (v.xat.below hW).2.1 sf.l1 v.thr.own v.thr.l2) rfl (by have:=(Ce sf.l1).2;omega)).mono ?_;rintro e w' ⟨r,x,c',rfl,h1,h2,h3,h4⟩;refine⟨r,rfl,?_⟩;rcases h4 with⟨rfl,a1,_⟩|⟨rfl,a1,d,a2,rfl⟩
 ·exact .no (.of h1.wk) h2 h3 qX (.k12 hk X (v.sameT).symm rfl rfl (.inl ⟨rfl,a1,rfl⟩))
 ·rcases h3 with⟨_,rfl⟩|⟨h,_⟩
  ·exact .yes h2 h1.f (.k12 hk _ rfl rfl rfl (.inr ⟨rfl,a1,d,a2,rfl⟩))
  ·exact absurd rfl h
theorem dA(v:Env E w B P s g ca q co lt lo t c C nb kv K X)(hk:s.kind=14):
 Calls prog 147 #[.pointer P] w fun e w'=>∃r,e= .returned r/\PG E B P s lt lo t X (.map (some c)) w w' ⟨#[]⟩ r:=by
 refine(Yw E w B P s g ca q co lt lo t _ v.h v.e v.h14 v.hB v.ht X v.hX (fun i j hij hj=>by have:=ZN v.thr.own i j hij hj;omega)).mono ?_;rintro e w' ⟨r,x,c',rfl,h1,h2,h3,h4⟩;refine⟨r,rfl,?_⟩;rcases h4 with⟨rfl,a1,_⟩|⟨rfl,a1,a,cc,rfl⟩
 ·exact .no (.of h1.wk) h2 h3 qX (.k14 hk X (v.sameT).symm rfl rfl (.inl ⟨rfl,a1,rfl⟩))
 ·rcases h3 with⟨_,rfl⟩|⟨h,_⟩
  ·exact .yes h2 h1.f (.k14 hk _ rfl rfl rfl (.inr ⟨rfl,a1,a,cc,rfl⟩))
  ·exact absurd rfl h
theorem kinds{k:Int}(h:1<=k/\k<=15):k=1∨(k=2∨k=3∨k=4∨k=5)∨k=11∨k=12∨k=14∨(k=6∨k=7∨k=8∨k=9∨k=10∨k=13∨k=15):=by omega
theorem bG(v:Env E w B P s g ca q co lt lo t c C nb kv K X)(h18:18<=B):
 Calls prog 118 #[.pointer P] w fun e w'=>∃tx r,e= .returned (.tuple #[.string tx,r])/\PG E B P s lt lo t X (.map (some c)) w w' tx r:=by
 have VV:=qC v;obtain⟨⟨k0,k1,k2,k3,k4,k5,k6,k7,k8,k9⟩,k10,k11,k12,k13⟩:=v.h.wk.jZ;have kd:=(Hu v.so).kind;clear v;rcases kinds kd with hk|hk|hk|hk|hk|hk
 ·have CC:=qC (gG VV h18 hk);rw[hk]at k1;clear hk kd;go_enter func118,ntmps118
  go_wp2_with fail
  refine CC.out.mono ?_;rintro e w9 ⟨tx,r,rfl,rp⟩;have RP:=qC rp;clear rp;go_wp2;go_ret2;exact⟨_,_,rfl,RP⟩
 ·have CC:=qC (Oh VV h18 hk);rcases hk with hk|hk|hk|hk;all_goals(
   rw[hk]at k1;clear hk kd;go_enter func118,ntmps118
   go_wp2_with fail
   refine CC.out.mono ?_;rintro e w9 ⟨tx,r,rfl,rp⟩;have RP:=qC rp;clear rp;go_wp2;go_ret2;exact⟨_,_,rfl,RP⟩)
 ·have CC:=qC (aM VV hk);rw[hk]at k1;clear hk kd;go_enter func118,ntmps118
  go_wp2_with fail
  refine CC.out.mono ?_;rintro e w9 ⟨r,rfl,rp⟩;have RP:=qC rp.q;clear rp;go_wp2;go_ret2;exact⟨_,_,rfl,RP⟩
 ·have CC:=qC (fe VV hk);rw[hk]at k1;clear hk kd;go_enter func118,ntmps118
  go_wp2_with fail
  refine CC.out.mono ?_;rintro e w9 ⟨r,rfl,rp⟩;have RP:=qC rp;clear rp;go_wp2;go_ret2;exact⟨_,_,rfl,RP⟩
 ·have CC:=qC (dA VV hk);rw[hk]at k1;clear hk kd;go_enter func118,ntmps118
  go_wp2_with fail
  refine CC.out.mono ?_;rintro e w9 ⟨r,rfl,rp⟩;have RP:=qC rp;clear rp;go_wp2;go_ret2;exact⟨_,_,rfl,RP⟩
 ·have CC:=qC (cg VV hk);rcases hk with hk|hk|hk|hk|hk|hk|hk;all_goals(
   rw[hk]at k1;clear hk kd;go_enter func118,ntmps118
   go_wp2_with fail
   refine CC.out.mono ?_;rintro e w9 ⟨tx,r,rfl,rp⟩;have RP:=qC rp.q;clear rp;go_wp2;go_ret2;exact⟨_,_,rfl,RP⟩)
end
theorem ZD(E:Nat->Addr)(s:Aj):Zk E s:=fun v h=>bG v h
open Go.Value renaming slice→qV
theorem Ho.keepB{w w':qM}{B:Nat}{vt vo:Value}{lt:List Ae}{lo:List Ab}(h:Ho w B vt vo lt lo)(hs:w.heap.size<=w'.heap.size)(hb:∀b,B<=b->b<w.heap.size->w'.heap[b]? =w.heap[b]?):Ho w' B vt vo lt lo:=by
 have own:∀{ty sz n:Nat}{v:Value}{cs:List Value},w.ownsRow B ty sz v n cs->w'.ownsRow B ty sz v n cs:=fun{ty sz n v cs} ho=>by
  refine⟨ho.1,?_⟩;rcases ho.2 with h1|⟨g,cap,cur,hv,hB,hg,r⟩
  ·exact .inl h1
  ·exact .inr ⟨g,cap,cur,hv,hB,(hb g hB (Array.getElem?_eq_some_iff.1 hg).1).trans hg,r⟩
 have kc:∀{c:As},c.new B w->c.new B w':=fun{c} hc=>hc.of hs (fun b e hn=>by
  obtain⟨b',m,F,e',h1,_,hr⟩:=hc.2 hn;rw[e]at e';cases e';exact hb _ h1 hr.lt)
 have ki:∀{c:AJ},c.new B w->c.new B w':=fun{c} hc=>hc.of hs (fun b e hn=>by
  obtain⟨b',m,F,e',h1,_,hr⟩:=hc.2 hn;rw[e]at e';cases e';exact hb _ h1 hr.lt)
 have ks:∀{c:AE},c.jH B w->c.jH B w':=fun hc=>hc.of hs (fun b hm=>hb b (hc.lt b hm).1 (hc.lt b hm).2);exact⟨own h.t,own h.o,fun x hx=>⟨kc (h.tn x hx).1,kc (h.tn x hx).2.1,ki (h.tn x hx).2.2⟩,fun x hx=>⟨kc (h.on x hx).1,ks (h.on x hx).2.1,ki (h.on x hx).2.2.1,kc (h.on x hx).2.2.2⟩⟩
def As.fill(x y:As):As:=⟨x.a,x.n,x.k,y.f,y.g⟩
def AJ.fill(x y:AJ):AJ:=⟨x.a,x.n,x.k,y.h⟩
def AE.fill(x y:AE):AE:=⟨x.a,x.n,x.k,y.f⟩
theorem As.at.fill{w:qM}{x y:As}(h:x.at w)(e:y.eqv x):(x.fill y).at w:=⟨h.1,fun hn=>by
 obtain⟨b,off,ea,hlt,hc⟩:=h.2 hn;exact⟨b,off,ea,hlt,fun i hi=>by
  have hi':i<x.n:=hi;have q:=e.2 i (by rw[<-e.1];exact hi');have c:=hc i hi;rw[q.1,q.2]at c;exact c⟩⟩
theorem AJ.at.fill{w:qM}{x y:AJ}(h:x.at w)(e:y.eqv x):(x.fill y).at w:=⟨h.1,fun hn=>by
 obtain⟨b,off,ea,hlt,hc⟩:=h.2 hn;exact⟨b,off,ea,hlt,fun i hi=>by
  have hi':i<x.n:=hi;have q:=e.2 i (by rw[<-e.1];exact hi');have c:=hc i hi;rw[q]at c;exact c⟩⟩
theorem AE.at.fill{w:qM}{x y:AE}(h:x.at w)(e:y.eqv x):(x.fill y).at w:=⟨h.1,fun hn=>by
 obtain⟨b,off,ea,hlt,hc⟩:=h.2.1 hn;exact⟨b,off,ea,hlt,fun i hi=>by
  have hi':i<x.n:=hi;have q:=e.2 i (by rw[<-e.1];exact hi');have c:=hc i hi;rw[q]at c;exact c⟩,fun i hi=>by
  have hi':i<x.n:=hi;have q:=e.2 i (by rw[<-e.1];exact hi');have c:=h.2.2 i hi;rw[q]at c;exact c⟩
def Ae.fill(x y:Ae):Ae:=⟨x.id,x.b1,x.c1.fill y.c1,x.b2,x.c2.fill y.c2,x.own.fill y.own,x.made⟩
def Ab.fill(x y:Ab):Ab:=⟨x.id,x.kind,x.up,x.b1,x.c1.fill y.c1,x.data,x.jA.fill y.jA,x.own.fill y.own,x.b2,x.c2.fill y.c2⟩
structure IU(w:qM)(k:Av)(T:List Ae)(O:List Ab):Prop where
 lies:k.at w
 same:(kL T O).same k
 cap:k.on<=k.ok
section
variable {w w':qM}{k:Av}{T T':List Ae}{O O':List Ab}{s:Aj}{c:Int}{tx:ByteArray}{E:Nat->Addr}
theorem IU.below(h:IU w k T O)(hb:Below w w w'):IU w' k T O:=⟨h.lies.below hb,h.same,h.cap⟩
theorem IU.okK(h:IU w k T O)(ok:okL T O=true):Bh k=true:=(Cc h.same).trans ok
theorem IU.wfs(h:IU w k T O)(ok:okL T O=true):∀i,i<k.on->(Lit.int .i64 (k.O i).id).wf=true/\(Lit.int .i64 (k.O i).up).wf=true:=fun i hi=>by
 have e:k.on=O.length:=h.same.2.2.1;have q:=h.same.2.2.2 i (show i<O.length by omega);have:=(Ou ok).wf i qQ;rw[q.1,q.2.2.1];exact this
def dm(ta:Option Addr)(ca:Nat)(oa:Option Addr)(co:Nat)(lt:List Ae)(lo:List Ab)(T:List Ae)(O:List Ab):Av:=⟨ta,lt.length,ca,fun i=>(Be lt i).fill (Be T i),oa,lo.length,co,fun i=>(Aa lo i).fill (Aa O i)⟩
theorem Zt{ta oa:Option Addr}{ca co:Nat}{lt:List Ae}{lo:List Ab}(h:(Df ta ca oa co lt lo).at w)(hc:lo.length<=co)(et:Q6 T lt)(eo:QI O lo):IU w (dm ta ca oa co lt lo T O) T O:=by
 refine⟨⟨h.1,h.2.1,fun hn=>?_,fun hn=>?_⟩,⟨et.1,fun j hj=>?_,eo.1,fun j hj=>?_⟩,hc⟩
 ·obtain⟨b,off,ea,hlt,hc⟩:=h.2.2.1 hn;refine⟨b,off,ea,hlt,fun i hi=>?_⟩;obtain⟨c7,q1,q2,q3⟩:=hc i hi;obtain⟨e1,e2,e3,e4,e5,e6,e7⟩:=et.2 i (by rw[<-et.1];exact hi);exact⟨⟨c7.c0,c7.c1,c7.c2,c7.c3,c7.c4,c7.c5,c7.c6⟩,q1.fill e3,q2.fill e5,q3.fill e6⟩
 ·obtain⟨b,off,ea,hlt,hc⟩:=h.2.2.2 hn;refine⟨b,off,ea,hlt,fun i hi=>?_⟩;obtain⟨c,q1,q2,q3,q4,q5⟩:=hc i hi;obtain⟨e1,e2,e3,e4,e5,e6,e7,e8,e9,e10⟩:=eo.2 i (by rw[<-eo.1];exact hi);exact⟨⟨c.c0,c.c1,c.c2,c.c3,c.c4,c.c5,c.c6,c.c7,c.c8,c.c9⟩,q1.fill e5,q2.fill e7,q3.fill e8,q4.fill e10,q5⟩
 ·obtain⟨e1,e2,e3,e4,e5,e6,e7⟩:=et.2 j hj;exact⟨e1,e2,⟨e3.1,rfl,rfl⟩,e4,⟨e5.1,rfl,rfl⟩,⟨e6.1,rfl⟩,e7⟩
 ·obtain⟨e1,e2,e3,e4,e5,e6,e7,e8,e9,e10⟩:=eo.2 j hj;exact⟨e1,e2,e3,e4,⟨e5.1,rfl,rfl⟩,e6,⟨e7.1,rfl⟩,⟨e8.1,rfl⟩,e9,⟨e10.1,rfl,rfl⟩⟩
theorem Xy(s:Aj):s.same s:=⟨rfl,rfl,rfl,rfl,rfl,rfl,rfl,⟨rfl,rfl,rfl⟩,rfl,⟨rfl,rfl,rfl⟩⟩
def Ff(w:qM)(B:Nat)(ta oa:Option Addr)(ca co:Nat)(T:List Ae)(O:List Ab):Prop:=
 ∃(lt:List Ae) (lo:List Ab),Ho w B (qV ta lt.length ca) (qV oa lo.length co) lt lo/\okL lt lo=true/\Q6 T lt/\QI O lo
theorem Ff.below{B:Nat}{ta oa:Option Addr}{ca co:Nat}(h:Ff w B ta oa ca co T O)(hb:Below w w w'):Ff w' B ta oa ca co T O:=by
 obtain⟨lt,lo,a,b,c,d⟩:=h;exact⟨lt,lo,a.below hb,b,c,d⟩
theorem Ff.set{B P i:Nat}{u:Value}{ta oa:Option Addr}{ca co:Nat}(h:Ff w B ta oa ca co T O)(hP:P<B):Ff (w.setCell ⟨P,i,none⟩ u) B ta oa ca co T O:=by
 obtain⟨lt,lo,a,b,c,d⟩:=h;exact⟨lt,lo,a.keepB sI (fun x hx _=>by simp[World.setCell,Array.getElem?_modify,show P≠x by omega]),b,c,d⟩
theorem Ff.ref{B:Nat}{ta oa:Option Addr}{ca co:Nat}(h:Ff w B ta oa ca co T O):∃k:Av,IU w k T O/\k.ta=ta/\k.tn=T.length/\k.tk=ca/\k.oa=oa/\k.on=O.length/\k.ok=co:=by
 obtain⟨lt,lo,a,b,c,d⟩:=h;exact⟨dm ta ca oa co lt lo T O,Zt (a.at (Ou b)) (Dj a.o).1 c d,rfl,c.1,rfl,rfl,d.1,rfl⟩
def aw(w:qM)(T':List Ae)(O':List Ab)(c:Int)(tx:ByteArray)(e:Ending)(w':qM):Prop:=
 ∃(ta oa:Option Addr) (ca co:Nat),e= .returned (.tuple #[.agg #[qV ta T'.length ca,qV oa O'.length co],.int .i64 c,.string tx])/\Ff w' w ta oa ca co T' O'/\Below w w w'
theorem WU{ta oa:Option Addr}{ca co:Nat}{lt:List Ae}{lo:List Ab}{c2:Int}{tx2:ByteArray}{e:Ending}(h:IU w k T O)(ok:okL T O=true)(r:Fy (kL T O) s c tx T' O')(he:e= .returned (.tuple #[.agg #[qV ta lt.length ca,qV oa lo.length co],.int .i64 c2,.string tx2]))
 (kf:Ho w' w (qV ta lt.length ca) (qV oa lo.length co) lt lo)(rt:Fy k s c2 tx2 lt lo)(hb:Below w w w'):aw w T' O' c tx e w':=by
 have rt2:=rt.of h.same (Xy s);have ok2:=rt2.ok2 ok;obtain⟨e1,e2,et,eo⟩:=Tz r rt2;subst e1;subst e2;refine⟨ta,oa,ca,co,?_,⟨lt,lo,kf,ok2,et,eo⟩,hb⟩;rw[he,et.1,eo.1]
theorem Zu(h:IU w k T O)(ok:okL T O=true)(hs:s.at w)(v:Mp w E)(r:Fy (kL T O) s c tx T' O'):
 Calls prog 37 #[.agg #[qV k.ta k.tn k.tk,qV k.oa k.on k.ok],.agg s] w (aw w T' O' c tx):=by
 refine(Lz E k s (ZD E s) w h.lies hs h.cap (h.wfs ok) v.1 v.2.1 v.2.2).mono fun e w' d=>?_;obtain⟨lt,lo,ta,oa,ca,co,c2,tx2,he,kf,_,rt,hb⟩:=d.ans;exact WU h ok r he kf rt hb
theorem eT(h:IU w k T O)(ok:okL T O=true)(hs:s.at w)(r:Fy (kL T O) s c tx T' O'):
 Calls prog 16 #[.agg #[qV k.ta k.tn k.tk,qV k.oa k.on k.ok],.agg s] w (aw w T' O' c tx):=by
 refine(OQ k w h.lies (h.okK ok) s hs).mono ?_;rintro e w' ⟨Ju,Qf,lt,lo,ta,ca,oa,co,c2,tx2,he,ks,hb,sm,d⟩;exact WU h ok r he ks.f (.inr ⟨h.okK ok,Ju,Qf,lt,lo,sm,Oz _,P6 _,d⟩) hb
theorem ZR{B:Nat}{ta oa:Option Addr}{ca co:Nat}(h:Ff w B ta oa ca co T O)(ok:okL T O=true)(hs:s.at w)(v:Mp w E)(r:Fy (kL T O) s c tx T' O'):
 Calls prog 37 #[.agg #[qV ta T.length ca,qV oa O.length co],.agg s] w (aw w T' O' c tx):=by
 obtain⟨k,kr,e1,e2,e3,e4,e5,e6⟩:=h.ref;have:=Zu kr ok hs v r;rw[e1,e2,e3,e4,e5,e6]at this;exact this
theorem fm{B:Nat}{ta oa:Option Addr}{ca co:Nat}(h:Ff w B ta oa ca co T O)(ok:okL T O=true)(hs:s.at w)(r:Fy (kL T O) s c tx T' O'):
 Calls prog 16 #[.agg #[qV ta T.length ca,qV oa O.length co],.agg s] w (aw w T' O' c tx):=by
 obtain⟨k,kr,e1,e2,e3,e4,e5,e6⟩:=h.ref;have:=eT kr ok hs r;rw[e1,e2,e3,e4,e5,e6]at this;exact this
theorem Vz{k l m:Av}(h1:k.same l)(h2:l.same m):k.same m:=by
 obtain⟨a1,a2,a3,a4⟩:=h1;obtain⟨b1,b2,b3,b4⟩:=h2;refine⟨b1.trans a1,fun j hj=>?_,b3.trans a3,fun j hj=>?_⟩
 ·obtain⟨c1,c2,c3,c4,c5,c6,c7⟩:=a2 j hj;obtain⟨d1,d2,d3,d4,d5,d6,d7⟩:=b2 j (by rw[a1];exact hj);exact⟨d1.trans c1,d2.trans c2,⟨d3.1.trans c3.1,d3.2.1.trans c3.2.1,d3.2.2.trans c3.2.2⟩,d4.trans c4,⟨d5.1.trans c5.1,d5.2.1.trans c5.2.1,d5.2.2.trans c5.2.2⟩,⟨d6.1.trans c6.1,d6.2.trans c6.2⟩,d7.trans c7⟩
 ·obtain⟨c1,c2,c3,c4,c5,c6,c7,c8,c9,c10⟩:=a4 j hj;obtain⟨d1,d2,d3,d4,d5,d6,d7,d8,d9,d10⟩:=b4 j (by rw[a3];exact hj);exact⟨d1.trans c1,d2.trans c2,d3.trans c3,d4.trans c4,⟨d5.1.trans c5.1,d5.2.1.trans c5.2.1,d5.2.2.trans c5.2.2⟩,d6.trans c6,⟨d7.1.trans c7.1,d7.2.trans c7.2⟩,⟨d8.1.trans c8.1,d8.2.trans c8.2⟩,d9.trans c9,⟨d10.1.trans c10.1,d10.2.1.trans c10.2.1,d10.2.2.trans c10.2.2⟩⟩
def dF(w:qM)(T:List Ae)(O:List Ab)(e:Ending)(w':qM):Prop:=∃(ta oa:Option Addr) (ca co:Nat),e= .returned (.agg #[qV ta T.length ca,qV oa O.length co])/\Ff w' w ta oa ca co T O/\Below w w w'
theorem eH{T lt:List Ae}{O lo:List Ab}{ta oa:Option Addr}{ca co:Nat}(h:(kL T O).same (Df ta ca oa co lt lo)):Q6 T lt/\QI O lo:=
 ⟨⟨h.1,fun j hj=>by
   obtain⟨a1,a2,a3,a4,a5,a6,a7⟩:=h.2.1 j hj;exact⟨a1,a2,⟨a3.1,fun i _=>⟨congrFun a3.2.1 i,congrFun a3.2.2 i⟩⟩,a4,⟨a5.1,fun i _=>⟨congrFun a5.2.1 i,congrFun a5.2.2 i⟩⟩,⟨a6.1,fun i _=>congrFun a6.2 i⟩,a7⟩⟩,⟨h.2.2.1,fun j hj=>by
   obtain⟨a1,a2,a3,a4,a5,a6,a7,a8,a9,a10⟩:=h.2.2.2 j hj;exact⟨a1,a2,a3,a4,⟨a5.1,fun i _=>⟨congrFun a5.2.1 i,congrFun a5.2.2 i⟩⟩,a6,⟨a7.1,fun i _=>congrFun a7.2 i⟩,⟨a8.1,fun i _=>congrFun a8.2 i⟩,a9,⟨a10.1,fun i _=>⟨congrFun a10.2.1 i,congrFun a10.2.2 i⟩⟩⟩⟩⟩
theorem W6{ta oa:Option Addr}{ca co:Nat}{lt:List Ae}{lo:List Ab}{e:Ending}(h:IU w k T O)(ok:okL T O=true)(he:e= .returned (.agg #[qV ta lt.length ca,qV oa lo.length co]))(ks:Bz w' w (qV ta lt.length ca) (qV oa lo.length co) lt lo)(sm:k.same (Df ta ca oa co lt lo))(hb:Below w w w'):dF w T O e w':=by
 have s2:=Vz h.same sm;have ok2:okL lt lo=true:=(Cc s2).trans ok;obtain⟨et,eo⟩:=eH s2;refine⟨ta,oa,ca,co,?_,⟨lt,lo,ks.f,ok2,et,eo⟩,hb⟩;rw[he,et.1,eo.1]
theorem WH(h:IU w k T O)(ok:okL T O=true):Calls prog 14 #[.agg #[qV k.ta k.tn k.tk,qV k.oa k.on k.ok]] w (dF w T O):=by
 refine(Gx k w h.lies (Iw (h.okK ok))).mono ?_;rintro e w' ⟨lt,lo,ta,oa,ca,co,he,ks,_,_,sm,hb⟩;exact W6 h ok he ks sm hb
theorem WC(h:IU w k T O)(ok:okL T O=true):Calls prog 15 #[.agg #[qV k.ta k.tn k.tk,qV k.oa k.on k.ok]] w (dF w T O):=by
 refine(PH k w h.lies (Iw (h.okK ok))).mono ?_;rintro e w' ⟨lt,lo,ta,oa,ca,co,he,ks,sm,hb⟩;exact W6 h ok he ks sm hb
end
open _root_.Nat renaming zero_le→qy
open Go.World renaming ownsRow→qq
open _root_.List renaming length_append→jU
variable {w w':qM}{B n:Nat}{v:Value}
theorem Tryz.info37:(prog.info? 37).map (fun i=>(i.zero,i.size,i.bytes))=some (some (.agg #[.int .i64 0,.string ⟨#[]⟩]),2,24):=by kernel_rfl
def Gr(l:List (Int×ByteArray)):List Value:=(l.map fun a=>[Value.int .i64 a.1,.string a.2]).flatten
theorem Ty(l:List (Int×ByteArray)):(Gr l).length=l.length*2:=by
 induction l with
 |nil=>rfl
 |cons x r ih=>simp[Gr]at *;omega
theorem MS(l r:List (Int×ByteArray)):Gr (l++r)=Gr l++Gr r:=by simp[Gr]
def Do(w:qM)(B:Nat)(v:Value)(l:List (Int×ByteArray)):Prop:=w.ownsRow B 37 2 v l.length (Gr l)
theorem Do.nil(w:qM)(B:Nat):Do w B (qV none 0 0) []:=World.ownsRow_nil _ _ _ _
theorem Do.shape{l:List (Int×ByteArray)}(h:Do w B v l):∃a c,v= qV a l.length c:=CG h
theorem Do.grown{row:Option Nat}{l:List (Int×ByteArray)}(h:Do w B v l)(hg:w.grownBy w' row)(hne:v.ownBlock=none∨v.ownBlock≠row):Do w' B v l:=qq.kept h hg hne
theorem Do.below{l:List (Int×ByteArray)}(h:Do w B v l)(hb:Below w w w'):Do w' B v l:=qq.kept (row:=none) h ⟨hb.os,hb.tape,hb.output,hb.size,fun k hk _=>hb.block k hk⟩ (by cases v.ownBlock<;>simp)
theorem Do.base{B':Nat}{l:List (Int×ByteArray)}(h:Do w B v l)(hB:B'<=B):Do w B' v l:=by
 refine⟨h.1,?_⟩;rcases h.2 with hn|⟨g,cap,cur,hv,hbg,rest⟩
 ·exact .inl hn
 ·exact .inr ⟨g,cap,cur,hv,Nat.le_trans hB hbg,rest⟩
theorem Do.set{P i t:Nat}{u:Value}{cs:Array Value}{l:List (Int×ByteArray)}(h:Do w B v l)(hb:Ag w P (.cells cs t))(ht:t≠37):Do (w.setCell ⟨P,i,none⟩ u) B v l:=by
 refine⟨h.1,?_⟩;rcases h.2 with hn|⟨g,cap,cur,hv,hbg,hg,rest⟩
 ·exact .inl hn
 ·refine .inr ⟨g,cap,cur,hv,hbg,?_,rest⟩;have ne:P≠g:=fun e=>by
   subst e;unfold Ag at hb;rw[hb]at hg;injection hg with hg;injection hg with _ h2 _;exact ht h2
  simp[World.setCell,Array.getElem?_modify,ne,hg]
theorem Xb(w:qM)(c:Int)(tx:ByteArray):Bl (w.alloc (.cells #[.int .i64 c,.string tx] 37)) (some ⟨w,0,none⟩) 1 (Gr [(c,tx)]):=fun _=>by
 refine⟨w,0,rfl,by simp,fun j u hu=>?_⟩;have h:=Ag.new w (.cells #[.int .i64 c,.string tx] 37);have e:Gr [(c,tx)]=[.int .i64 c,.string tx]:=by simp[Gr]
 rw[e]at hu;rw[Nat.zero_add];refine h.c0 j ?_;rw[<-hu];simp only[List.getElem?_toArray]
theorem UJ(w:qM)(tt:TypeId)(B:Nat)(v:Value)(l:List (Int×ByteArray))(hown:Do w B v l)(ad:Option Addr)(c:Nat)(x:Int×ByteArray)(hc:Bl w ad 1 (Gr [x]))(hn:l.length<=1048576)(hB:B<=w.heap.size):
 ∃a' c' w',(Builtin.append_ #[31,31] tt #[v,qV ad 1 c]).run prog w= .ok (qV a' (l.length+1) c') w'/\Do w' B (qV a' (l.length+1) c') (l++[x])/\w.grownBy w' v.ownBlock:=by
 obtain⟨a',c',w',h1,h2,h3,_⟩:=DY underlying31 Tryz.info37 rfl qQ w tt B v l.length (Gr l) hown ad 1 c (Gr [x]) (Ty [x]) hc (fun u hu=>by simp[Gr]at hu;rcases hu with rfl|rfl<;>rfl) qQ qQ hB;refine⟨a',c',w',h1,?_,h3⟩;unfold Do;rw[jU,MS];exact h2
theorem JF{ops:Array Oper}{rest:List Oper}{oo:Oper}{a:Act}{Q:Exit->Act->qM->Prop}(w:qM)(hgd:oo.guard=none)(s x:Operand)
 (ho:oo.op= .call {callee:= .builtin .append,args:=#[s,x],argTypes:=#[31,31]})
 (B:Nat)(v:Value)(l:List (Int×ByteArray))(hs:a.eval s=v)(hown:Do w B v l)(ad:Option Addr)(c:Nat)(y:Int×ByteArray)(hx:a.eval x= qV ad 1 c)(hc:Bl w ad 1 (Gr [y]))(hn:l.length<=1048576)(hB:B<=w.heap.size)
 (h:∀a' c' w',Do w' B (qV a' (l.length+1) c') (l++[y])->w.grownBy w' v.ownBlock->wpList prog ops Q rest (a.put oo.dst (qV a' (l.length+1) c')) w'):wpList prog ops Q (oo::rest) a w:=by
 refine wpList_plain hgd fun K hK=>?_;obtain⟨a',c',w',hr,h2,h3⟩:=UJ w oo.type B v l hown ad c y hc hn hB;unfold Oper.wp execOp;simp only[ho,resolve,invoke,builtin,Sem.run_bind,Sem.run_pure,Result.andThen_ok,List.map_toArray,List.map_cons,List.map_nil,hs,hx,hr];exact hK _ _ (h a' c' w' h2 h3)
structure SK(w:qM)(b p:Nat)(s:Aj):Prop where
 c0:w.cell? ⟨b,p,none⟩=some (.int .i64 s.th)
 c1:w.cell? ⟨b,p+1,none⟩=some (.int .i64 s.kind)
 c2:w.cell? ⟨b,p+2,none⟩=some (.int .i64 s.id)
 c3:w.cell? ⟨b,p+3,none⟩=some (.int .i64 s.to)
 c4:w.cell? ⟨b,p+4,none⟩=some (.int .i64 s.cat)
 c5:w.cell? ⟨b,p+5,none⟩=some (.string s.data)
 c6:w.cell? ⟨b,p+6,none⟩=some (.int .i64 s.b1)
 c7:w.cell? ⟨b,p+7,none⟩=some (qV s.c1.a s.c1.n s.c1.k)
 c8:w.cell? ⟨b,p+8,none⟩=some (.int .i64 s.b2)
 c9:w.cell? ⟨b,p+9,none⟩=some (qV s.c2.a s.c2.n s.c2.k)
theorem SK.below{b p:Nat}{s:Aj}(h:SK w b p s)(hb:Below w w w')(hl:b<w.heap.size):SK w' b p s:=
 ⟨(hb.cell hl).trans h.c0,(hb.cell hl).trans h.c1,(hb.cell hl).trans h.c2,(hb.cell hl).trans h.c3,(hb.cell hl).trans h.c4,(hb.cell hl).trans h.c5,(hb.cell hl).trans h.c6,(hb.cell hl).trans h.c7,(hb.cell hl).trans h.c8,(hb.cell hl).trans h.c9⟩
def Gs(w:qM)(a:Option Addr)(n:Nat)(S:Nat->Aj):Prop:=
 0<n->∃b off,a=some ⟨b,off,none⟩/\b<w.heap.size/\∀i,i<n->SK w b (off+i*10) (S i)/\(S i).at w
theorem Gs.below{a:Option Addr}{S:Nat->Aj}(h:Gs w a n S)(hb:Below w w w'):Gs w' a n S:=fun hn=>by
 obtain⟨b,off,e,hl,hc⟩:=h hn;exact⟨b,off,e,Nat.lt_of_lt_of_le hl hb.size,fun i hi=>⟨(hc i hi).1.below hb hl,(hc i hi).2.below hb⟩⟩
structure eJ(S:Nat->Aj)(n:Nat)(T:Nat->List Ae)(O:Nat->List Ab)(A:Nat->List (Int×ByteArray)):Prop where
 start:A 0=[]
 ok:∀i,i<=n->okL (T i) (O i)=true
 len:∀i,i<=n->(A i).length=i
 step:∀i,i<n->∃c tx,Fy (kL (T i) (O i)) (S i) c tx (T (i+1)) (O (i+1))/\A (i+1)=A i++[(c,tx)]
theorem Oi{S:Nat->Aj}{T T':List Ae}{O O':List Ab}{ans:List (Int×ByteArray)}(h:La S n T O ans T' O')(ok:okL T O=true):
 ∃(TT:Nat->List Ae) (OO:Nat->List Ab) (A:Nat->List (Int×ByteArray)),eJ S n TT OO A/\TT 0=T/\OO 0=O/\TT n=T'/\OO n=O'/\A n=ans:=by
 induction h with
 |nil T O=>exact⟨fun _=>T,fun _=>O,fun _=>[],⟨rfl,fun _ _=>ok,fun i hi=>by simp;omega,fun i hi=>by omega⟩,rfl,rfl,rfl,rfl,rfl⟩
 |more k r ok2 ih=>
  rename_i n T T1 T2 O O1 O2 ans c tx;obtain⟨TT,OO,A,st,e1,e2,e3,e4,e5⟩:=ih ok;refine⟨fun i=>if i<=n then TT i else T2,fun i=>if i<=n then OO i else O2,fun i=>if i<=n then A i else ans++[(c,tx)],⟨?_,fun i hi=>?_,fun i hi=>?_,fun i hi=>?_⟩,?_,?_,?_,?_,?_⟩
  ·show(if 0<=n then A 0 else _)=_;rw[if_pos (qy _)];exact st.start
  ·show okL (if i<=n then TT i else T2) (if i<=n then OO i else O2)=true;by_cases h:i<=n
   ·rw[if_pos h,if_pos h];exact st.ok i h
   ·rw[if_neg h,if_neg h];exact ok2
  ·show(if i<=n then A i else ans++[(c,tx)]).length=i;by_cases h:i<=n
   ·rw[if_pos h];exact st.len i h
   ·rw[if_neg h,jU,<-e5,st.len n nr];simp;omega
  ·show ∃c' tx',Fy (kL (if i<=n then TT i else T2) (if i<=n then OO i else O2)) (S i) c' tx' (if i+1<=n then TT (i+1)else T2) (if i+1<=n then OO (i+1)else O2)/\(if i+1<=n then A (i+1)else ans++[(c,tx)])=(if i<=n then A i else ans++[(c,tx)])++[(c',tx')];by_cases h:i+1<=n
   ·rw[if_pos h,if_pos h,if_pos h,if_pos (show i<=n by omega),if_pos (show i<=n by omega),if_pos (show i<=n by omega)];exact st.step i qQ
   ·obtain rfl:i=n:=by omega
    rw[if_neg h,if_neg h,if_neg h,if_pos nr,if_pos nr,if_pos nr,e3,e4,e5];exact⟨c,tx,r,rfl⟩
  ·show(if 0<=n then TT 0 else _)=_;rw[if_pos (qy _)];exact e1
  ·show(if 0<=n then OO 0 else _)=_;rw[if_pos (qy _)];exact e2
  ·show(if n+1<=n then TT (n+1)else T2)=T2;rw[if_neg qQ]
  ·show(if n+1<=n then OO (n+1)else O2)=O2;rw[if_neg qQ]
  ·show(if n+1<=n then A (n+1)else ans++[(c,tx)])=_;rw[if_neg qQ]
open Go.Value renaming string→sT
variable {w w':qM}{B ca co P:Nat}{ta oa:Option Addr}{T:List Ae}{O:List Ab}{v:Value}
theorem Ff.base{B':Nat}(h:Ff w B ta oa ca co T O)(hB:B'<=B):Ff w B' ta oa ca co T O:=by
 obtain⟨lt,lo,a,b,c,d⟩:=h;exact⟨lt,lo,a.base hB,b,c,d⟩
theorem Do.ne{t:Nat}{cs:Array Value}{l:List (Int×ByteArray)}(h:Do w B v l)(hb:Ag w P (qG cs t))(ht:t≠37):some P≠v.ownBlock:=by
 intro e;rcases h.2 with⟨hn,_⟩|⟨g,cap,cur,hv,hbg,hg,rest⟩
 ·rw[hn]at e;cases e
 ·rw[hv]at e;have e2:P=g:=Option.some.inj e;subst e2;unfold Ag at hb;rw[hb]at hg;injection hg with hg;injection hg with _ h2 _;exact ht h2
theorem Ff.kept{row:Option Nat}(h:Ff w B ta oa ca co T O)(hg:w.grownBy w' row)(hr:∀j,row=some j->j<B):Ff w' B ta oa ca co T O:=by
 obtain⟨lt,lo,a,b,c,d⟩:=h;exact⟨lt,lo,a.keepB hg.size (fun x hx hl=>hg.block x hl (fun e=>by have:=hr x e.symm;omega)),b,c,d⟩
def TJ(w:qM)(T':List Ae)(O':List Ab)(ans:List (Int×ByteArray))(e:Ending)(w':qM):Prop:=
 ∃(ta oa:Option Addr) (ca co:Nat) (v:Value),e= .returned (.tuple #[.agg #[qV ta T'.length ca,qV oa O'.length co],v])/\Ff w' w ta oa ca co T' O'/\Do w' w v ans/\qN w w w'
structure YH(w wr:qM)(P:Nat)(T:List Ae)(O:List Ab)(ta oa:Option Addr)(ca co:Nat)(v:Value)(ans:List (Int×ByteArray)):Prop where
 e:qN w w wr
 r:Ag wr (w.heap.size+1) (qG #[qV none 0 0,qV none 0 0] 27)
 p:Ag wr P (qG #[qV ta T.length ca,qV oa O.length co] 27)
 k:Ff wr (w.heap.size+2) ta oa ca co T O
 a:Do wr w v ans
 far:w.heap.size+2<=P
theorem YH.below{wr:qM}{ans:List (Int×ByteArray)}(h:YH w wr P T O ta oa ca co v ans)(hb:qN wr wr w'):YH w w' P T O ta oa ca co v ans:=
 ⟨Af h.e hb,h.r.below hb,h.p.below hb,h.k.below hb,h.a.below hb,h.far⟩
def fY(wr:qM)(T:List Ae)(O:List Ab)(c:Int)(tx:ByteArray)(p c' x:Value)(wc:qM):Prop:=
 ∃(ta oa:Option Addr) (ca co P9:Nat),p= .pointer P9/\c'= .int .i64 c/\x= sT tx/\Ag wc P9 (qG #[qV ta T.length ca,qV oa O.length co] 27)/\wr.heap.size<=P9/\Ff wc wr ta oa ca co T O/\qN wr wr wc
theorem Np(tmps:Array Value)(W:qM)(P:Nat)(x y v:Value)(h:Ag W P (qG #[x,y] 27))(h2:tmps[4]? =some (.pointer P))(h3:tmps[5]? =some v):
 (results Tryz.f7 tmps).run prog W= .ok (.tuple #[.agg #[x,y],v]) W:=by
 obtain⟨z0,z1⟩:=h.two;simp[results,Tryz.results7,go_sem,h2,h3,z0,z1]
theorem Tx(k:Av)(T T':List Ae)(O O':List Ab)(a:Option Addr)(n cap:Nat)(S:Nat->Aj)(ans:List (Int×ByteArray))(w:qM)(h:IU w k T O)(ok:okL T O=true)(hn:n<=60)(hS:Gs w a n S)(r:La S n T O ans T' O'):
 Calls prog 7 #[.agg #[qV k.ta k.tn k.tk,qV k.oa k.on k.ok],qV a n cap] w (TJ w T' O' ans):=by
 obtain⟨TT,OO,A,st,t0,o0,tn,on,an⟩:=Oi r ok;subst t0 o0 tn on an;clear r;have ST:=qC st;have HS:=qC hS;have n1:No (qG #[qV none 0 0,qV none 0 0] 27):=⟨⟩;have n2:No (qG #[qV k.ta k.tn k.tk,qV k.oa k.on k.ok] 27):=⟨⟩;have b0:qN w w ((w.alloc n2).alloc n1):=(Bg w _).alloc sI _;have CB:=qC ((Ag.new w n2).alloc n1);have RB:Hid (Ag ((w.alloc n2).alloc n1) (w.heap.size+1) n1):=qC (by have:=Ag.new (w.alloc n2) n1;simpa using this);have B0:=qC b0;have KR:=qC (h.below b0);have OK:=qC ok;have KO:=qC (FY k _ KR.out.lies (fun i hi=>(h.wfs ok i hi).1));rw[h.okK ok]at KO;have n60:¬(60:Int)<(n:Int):=by omega
 have N60:=qC hn;clear h ok hS b0 st hn;go_enter func7,ntmps7
 go_wp2_with fail
 generalize (w.alloc n2).alloc n1=W0 at *;obtain⟨z0,z1⟩:=CB.out.two;go_wp2_with fail
 refine KO.out.mono ?_;rintro e w1 ⟨rfl,h1⟩;have C1:=qC (CB.out.below h1);have R1:=qC (RB.out.below h1);have K1:=qC (KR.out.below h1);have D1:=qC (Af B0 h1);clear h1 z0 z1 KO CB RB KR B0;obtain⟨z0,z1⟩:=C1.out.two;go_wp2_with fail
 refine(WC K1 OK).mono ?_;rintro e w2 ⟨ta,oa,ca,co,rfl,kw,h2⟩;have n3:Nw (w2.alloc (qG #[qV ta (TT 0).length ca,qV oa (OO 0).length co] 27)):=⟨⟩;have b3:qN w2 w2 ((n3:qM).alloc (qG #[] 37)):=(Bg w2 _).alloc sI _;have le2:=(Af D1 h2).size;have R2:w.heap.size+2<=w1.heap.size:=by have:=R1.out.lt;omega
 have le12:=h2.size;have le_w2:w.heap.size+2<=w2.heap.size:=by omega
 have I0:Hid (YH w ((n3:qM).alloc (qG #[] 37)) w2 (TT 0) (OO 0) ta oa ca co (qV (some ⟨w2.heap.size+1,0,none⟩) 0 0) (A 0)):=qC ⟨Af (Af D1 h2) b3,(R1.out.below h2).below b3,(Ag.new w2 _).alloc _,(kw.base R2).below b3,by
  rw[ST.out.start];have:=World.ownsRow_made n3 (base:=w.heap.size) (e:=37) (size:=2) #[] 0 sO (qy _) rfl;simpa[Do,Gr]using this,le_w2⟩
 clear h2 z0 z1 C1 R1 K1 D1 kw b3 le2;go_upto_region 5 with fail
 generalize (n3:qM).alloc (qG #[] 37)=W3 at *;generalize w2.heap.size=P at *;go_wp2_with fail
 go_loopw [7,8] (fun v i wr=>∃(j:Nat) (ta oa:Option Addr) (ca co:Nat),j<=n/\i= .int .i64 j/\Hid (YH w wr P (TT j) (OO j) ta oa ca co v (A j))) (fun _ i _=>n-(intOf i).toNat)
 case atStart=>exact⟨0,ta,oa,ca,co,qy _,rfl,I0⟩
 case round=>
  clear I0;obtain⟨j,ta,oa,ca,co,hj,rfl,I⟩:=hrel;by_cases hlt:j<n
  ·have i1:(j:Int)<(n:Int):=qQ;have i2:(0:Int)<=(j:Int):=qQ;obtain⟨c,tx,rt,ea⟩:=ST.out.step j hlt;obtain⟨b,off,rfl,hl,hc⟩:=(HS.out.below I.out.e) qQ;obtain⟨cs,sa⟩:=hc j hlt;obtain⟨va,vc,rfl⟩:=I.out.a.shape;have L4:Hid (∀W,qN wr wr W->Calls prog 16 #[.agg #[qV ta (TT j).length ca,qV oa (OO j).length co],.agg (S j)] W fun e w'=>∃v,e= .returned v/\∃(ta oa:Option Addr) (ca co:Nat),v= .tuple #[.agg #[qV ta (TT (j+1)).length ca,qV oa (OO (j+1)).length co],.int .i64 c,sT tx]/\Ff w' W ta oa ca co (TT (j+1)) (OO (j+1))/\qN W W w'):=qC (fun W hW=>(fm (I.out.k.below hW) (ST.out.ok j qQ) (sa.below hW) rt).mono fun e w' ⟨ta,oa,ca,co,he,hk,hb⟩=>⟨_,he,ta,oa,ca,co,rfl,hk,hb⟩);have EL:Hid (∀args w,(callFunc 16 args).run prog w= .ok (.enter 16 args) w):=qC (enters_of func16 kR rfl);have PLT:Hid (P<wr.heap.size):=qC I.out.p.lt;have HLT:=qC hlt;have EA:=qC ea;have CS:=qC cs;have HL:=qC hl;clear rt ea hc sa hlt cs;go_upto_region 8 with fail
   have D2:=qC ((Below.refl wr wr).drew);go_cut[9,10,11] (fun p c' x wc=>fY wr (TT (j+1)) (OO (j+1)) c tx p c' x wc)
   case first=>
    refine Am 13 (fun W=>qN wr wr W) kR ?_;refine tr 0 31 (.agg #[qV ta (TT j).length ca,qV oa (OO j).length co]) D2 ?_ (hy:=fun W h=>by obtain⟨x0,x1⟩:=(I.out.p.below h).two;go_simp);refine tr 1 32 (qV (some ⟨b,off,none⟩) n cap) D2 ?_;refine tr 2 33 (.int .i64 j) D2 ?_;refine tr 3 34 (.pointer (some ⟨b,off+j*10,none⟩)) D2 ?_;refine tr 4 35 (.agg (S j)) D2 ?_ (hy:=fun W h=>by obtain⟨x0,x1,x2,x3,x4,x5,x6,x7,x8,x9⟩:=CS.out.below h HL.out;go_simp);generalize wr.drew=WD at *;refine Cd (i:=5) (j:=10) kR rfl rfl ?_ ?_
    ·intro K hK;refine Ay qK 16 _ _ _ qK EL _ _ qK qK (some 36) qK _ (L4 _ D2) ?_;rintro v w5 ⟨tb,ob,cb,db,rfl,k5,b5⟩;have K5:=qC k5;have V5:=qC (Af D2 b5);refine hK _ _ (fun _=>V5) ?_;clear hK K k5 b5;simp only[ap,qF];have n4:Na #[qV tb (TT (j+1)).length cb,qV ob (OO (j+1)).length db]:=⟨⟩;refine tr 6 30 (.tuple #[.agg n4,.int .i64 c,sT tx]) V5 ?_;refine tr 7 37 (.agg n4) V5 ?_;refine tr 8 38 (.int .i64 c) V5 ?_;refine tr 9 39 (sT tx) V5 ?_;refine Ac (i:=10) kR rfl ?_;intro K hK;have b6:=(Below.refl w5 w5).alloc nr n1;have V6:=qC (Af V5 b6);have B6:=qC b6;have Z6:=qC (Ag.new w5 n1);have s5:=V5.out.size;have s6:=D2.out.size;go_simp;refine hK _ _ (fun _=>V6) ?_;clear hK K b6;try simp only[ap,qF]
     generalize w5.alloc n1=w6 at *;obtain⟨z0,z1⟩:=Z6.out.two;have zf:=Z6.out.jC;refine Ac (i:=11) kR rfl ?_;intro K hK;go_simp;have n6:Nv (qV tb (TT (j+1)).length cb):=⟨⟩;have n7:Nv (qV ob (OO (j+1)).length db):=⟨⟩;have V7:=qC ((V6.out.setCell (p:=⟨w5,0,none⟩) sO n6).setCell (p:=⟨w5,1,none⟩) sO n7);have K7:=qC (K5.out.below ((B6.out.setCell (p:=⟨w5,0,none⟩) nr n6).setCell (p:=⟨w5,1,none⟩) nr n7));have Z7:=qC ((Z6.out.jB (i:=0) n6).jB (i:=1) n7);refine hK _ _ (fun _=>V7) ?_;clear hK K;try simp only[ap,qF]
     refine oO 12 ?_ (hS:=fun _=>V7);try simp only[ap,qF]
     refine oO 13 ?_;try simp only[ap,qF]
     refine Ai kR ?_ _;go_wp2_with fail
     go_meet;case rel=>
      exact⟨tb,ob,cb,db,w5,rfl,rfl,rfl,Z7,s5,(K7.out.base s6),V7⟩
    ·intro K hK;have b4:=D2.out.alloc D2.out.size n1;have V4:=qC b4;have Z4:=qC (Ag.new WD n1);have s4:=D2.out.size;have lt4:WD.heap.size<(WD.alloc n1).heap.size:=sI;go_simp;refine hK _ _ (fun _=>V4) ?_;clear hK K b4;try simp only[ap,qF]
     generalize hw4:WD.alloc n1=w4 at *;clear hw4;generalize WD.heap.size=q at *;clear D2;refine Ac (i:=5) kR rfl ?_;intro K hK;refine Ay qK 16 _ _ _ qK EL _ _ qK qK (some 36) qK _ (L4 _ V4) ?_;rintro v w5 ⟨tb,ob,cb,db,rfl,k5,b5⟩;have K5:=qC k5;have V5:=qC (Af V4 b5);have Z5:=qC (Z4.out.below b5);have s5:=V4.out.size;refine hK _ _ (fun _=>V5) ?_;clear hK K k5 b5;simp only[ap,qF];have n5:Na #[qV tb (TT (j+1)).length cb,qV ob (OO (j+1)).length db]:=⟨⟩;refine tr 6 30 (.tuple #[.agg n5,.int .i64 c,sT tx]) V5 ?_;refine tr 7 37 (.agg n5) V5 ?_;refine tr 8 38 (.int .i64 c) V5 ?_;refine tr 9 39 (sT tx) V5 ?_;obtain⟨z0,z1⟩:=Z5.out.two;have zf:=Z5.out.jC;refine Ac (i:=11) kR rfl ?_;intro K hK;go_simp;have n9:Nv (qV tb (TT (j+1)).length cb):=⟨⟩;have n11:Nv (qV ob (OO (j+1)).length db):=⟨⟩;have V7:=qC ((V5.out.setCell (p:=⟨q,0,none⟩) s4 n9).setCell (p:=⟨q,1,none⟩) s4 n11);have K7:=qC ((K5.out.set (P:=q) (i:=0) (u:= qV tb (TT (j+1)).length cb) lt4).set (P:=q) (i:=1) (u:= qV ob (OO (j+1)).length db) lt4);have Z7:=qC ((Z5.out.jB (i:=0) n9).jB (i:=1) n11);refine hK _ _ (fun _=>V7) ?_;clear hK K;try simp only[ap,qF]
     refine oO 12 ?_ (hS:=fun _=>V7);try simp only[ap,qF]
     refine oO 13 ?_;try simp only[ap,qF]
     refine Ai kR ?_ _;go_wp2_with fail
     go_meet;case rel=>
      exact⟨tb,ob,cb,db,q,rfl,rfl,rfl,Z7,s4,(K7.out.base s5),V7⟩
   case rest=>
    obtain⟨tb,ob,cb,db,P9,rfl,rfl,rfl,B9,s9,K9,b9⟩:=hcut;have BP:=qC (I.out.p.below b9);have IF:=I.out.far;obtain⟨x0,x1⟩:=BP.out.two;obtain⟨y0,y1⟩:=B9.two;have xf:=BP.out.jC;have PW:=PLT.out;have n10:Nv (qV tb (TT (j+1)).length cb):=⟨⟩;have n12:Nv (qV ob (OO (j+1)).length db):=⟨⟩;have J:Hid (YH w ((wc.setCell ⟨P,0,none⟩ n10).setCell ⟨P,1,none⟩ n12) P (TT (j+1)) (OO (j+1)) tb ob cb db (qV va (A j).length vc) (A j)):=qC ⟨((Af I.out.e b9).setCell (p:=⟨P,0,none⟩) sO _).setCell (p:=⟨P,1,none⟩) sO _,((I.out.r.below b9).other qQ _).other qQ _,(BP.out.jB (i:=0) _).jB (i:=1) _,((K9.set PW).set PW).base qQ,((I.out.a.below b9).set BP qX).set (BP.out.jB _) qX,IF⟩;have KJ:Hid (Ff ((wc.setCell ⟨P,0,none⟩ n10).setCell ⟨P,1,none⟩ n12) wr tb ob cb db (TT (j+1)) (OO (j+1))):=qC ((K9.set PW).set PW);have OL:Hid (∀g,(Value.slice va (A j).length vc).ownBlock=some g->g<wr.heap.size):=qC (fun g e=>(qq.lt I.out.a g e).2);clear K9 b9 B9 s9;go_upto_region 10 with fail
    generalize (wc.setCell ⟨P,0,none⟩ n10).setCell ⟨P,1,none⟩ n12=W9 at *;have n8:Nw (W9.alloc (qG #[.int .i64 c,sT tx] 37)):=⟨⟩;have bA:qN W9 W9 n8:=Bg W9 _;have JA:=qC (J.out.below bA);have KA:=qC (KJ.out.below bA);have LA:=qC (Xb W9 c tx);have lA:(A j).length<=1048576:=(by have:=ST.out.len j hj;have:=N60.out;omega);have sA:w.heap.size<=(n8:qM).heap.size:=JA.out.e.size;clear x0 x1 y0 y1 xf bA;go_wp2_with(refine JF _ rfl _ _ rfl w (qV va (A j).length vc) (A j) rfl JA.out.a (some ⟨W9,0,none⟩) 1 (c,tx) rfl LA lA sA ?_;intro a3 c3 w3 o3 g3)
    go_roundw;case rel=>
     have e1:=EA.out;refine⟨j+1,tb,ob,cb,db,HLT,by go_num,qC ⟨?_,?_,?_,?_,?_,IF⟩⟩
     ·exact JA.out.e.trans (below_grown g3 sA (fun j hj=>(qq.lt JA.out.a j hj).1))
     ·exact JA.out.r.grown g3 (JA.out.a.ne JA.out.r qX)
     ·exact JA.out.p.grown g3 (JA.out.a.ne JA.out.p qX)
     ·exact(KA.out.kept g3 OL).base qQ
     ·rw[e1];exact o3
    case measure=>have:=HLT.out;simp[intOf];omega
  ·obtain rfl:j=n:=by omega
   obtain⟨x0,x1⟩:=I.out.p.two;obtain⟨r0,r1⟩:=I.out.r.two;have rf:=I.out.r.jC;go_wp2_with fail
   refine bodyPost_ret (Np _ _ _ _ _ _ ((I.out.r.jB (i:=0) _).jB (i:=1) _) qK qK) rfl ⟨ta,oa,ca,co,u7,rfl,?_,?_,?_⟩
   ·exact((I.out.k.set qQ).set qQ).base qQ
   ·exact(I.out.a.set I.out.r qX).set (I.out.r.jB _) qX
   ·exact(I.out.e.setCell (p:=⟨w.heap.size+1,0,none⟩) sI _).setCell (p:=⟨w.heap.size+1,1,none⟩) sI _
theorem UC(x y:Value)(w:World):Calls prog 36 #[.agg #[x,y],.slice none 0 0] w fun e w'=>e= .returned (.tuple #[])/\Below w w w':=by
 have b0:=qC (Bg w (.cells #[x,y] 27));go_enter func36,ntmps36
 go_wp2_with fail
 generalize w.alloc (.cells #[x,y] 27)=w1 at *;go_loopw [8] (fun i wr=>i= .int .i64 0/\wr=w1) (fun _ _=>0)
 case atStart=>exact⟨rfl,rfl⟩
 case round=>
  obtain⟨rfl,rfl⟩:=hrel;go_wp2_with fail
  simp[bodyPost,results,Tryz.results36];exact b0.out
theorem Sw(w:World):(callFunc 64 #[]).run prog w= .ok (.value (.tuple #[])) w:=run_call_mark0 func64 kR kR kR .disable kR w
theorem TD(w:World):(callFunc 65 #[]).run prog w= .ok (.value (.tuple #[])) w:=run_call_mark0 func65 kR kR kR .enable kR w
theorem SI(a:Addr)(w:World):(callFunc 82 #[.pointer (some a)]).run prog w= .ok (.value (.tuple #[])) w:=run_call_marked func82 kR kR kR .acquire kR a w
theorem aE{a:Addr}{x:Int}{w:World}(hc:w.cell? a=some (.int .u64 x)):(callFunc 111 #[.pointer (some a)]).run prog w= .ok (.value (.int .u64 x)) w:=run_call_load func111 kR kR kR .u64 kR hc
theorem XD(b:Nat)(w:World)(h:w.cell? ⟨b,0,none⟩=some (.int .u64 0)):Calls prog 72 #[.pointer b] w fun e w'=>e= .returned (.int .u64 0)/\w'=w:=by
 have hl:=aE h;go_enter func72,ntmps72
 go_wp2;go_ret;exact⟨rfl,rfl⟩
theorem Yp(b:Nat)(w:World)(h:w.cell? ⟨b,0,none⟩=some (.int .u64 0)):Calls prog 38 #[.pointer b] w fun e w'=>e= .returned (.tuple #[])/\w'=w:=by
 have hd:=Sw;have he:=TD;have ha:=SI ⟨b,0,none⟩;have n1:Nv (.pointer b):=⟨⟩;have hc:(convert 86 117 n1).run prog w= .ok n1 w:=run_convert_to_unsafe underlying86 underlying117 kR h;have HL:=XD b w h;go_enter func38,ntmps38
 go_wp2_with fail
 go_loopw [] (fun wr=>wr=w) (fun _=>0)
 case atStart=>rfl
 case round=>
  obtain rfl:=hrel;go_wp2_with fail
  refine HL.mono ?_;rintro e w' ⟨rfl,rfl⟩;go_wp2;simp[bodyPost,results,Tryz.results38]
end Go.Proofs.YtdaccbddcjlkpaaGreatDoor
