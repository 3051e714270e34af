import Derived.Test.YtefoofaocbjdoaaGreatDoorDWSs
import Derived.Test.YtefoofaocbjdoaaGreatDoorZ36s
set_option maxRecDepth 100000
set_option maxHeartbeats 16000000
namespace Go.Proofs.YtefoofaocbjdoaaGreatDoor
open Go Go.RowKit Go.Deep Go.Maps Go.BigFrame Go.Shelf Go.Proofs.Tryz
theorem VZ(v:Value)(W:World):(method 388 177 (.agg #[v]) "loop.example/g00272/impl.takes").run prog W= .ok (235,.agg #[v]) W:=by kernel_rfl
theorem We(v:Value)(W:World):(nilAhead 388 177 (.agg #[v]) "loop.example/g00272/impl.takes").run prog W= .ok (some false) W:=by kernel_rfl
theorem Wc(v:Value)(W:World):(method 388 177 (.agg #[v]) "loop.example/g00272/impl.label").run prog W= .ok (134,.agg #[v]) W:=by kernel_rfl
theorem VI(v:Value)(W:World):(method 388 179 (.agg #[v]) "loop.example/g00272/impl.takes").run prog W= .ok (236,.agg #[v]) W:=by kernel_rfl
theorem VU(v:Value)(W:World):(nilAhead 388 179 (.agg #[v]) "loop.example/g00272/impl.takes").run prog W= .ok (some false) W:=by kernel_rfl
theorem VM(v:Value)(W:World):(method 388 179 (.agg #[v]) "loop.example/g00272/impl.label").run prog W= .ok (134,.agg #[v]) W:=by kernel_rfl
theorem VQ(v:Value)(W:World):(method 388 181 (.agg #[v]) "loop.example/g00272/impl.takes").run prog W= .ok (237,.agg #[v]) W:=by kernel_rfl
theorem Wv(v:Value)(W:World):(nilAhead 388 181 (.agg #[v]) "loop.example/g00272/impl.takes").run prog W= .ok (some false) W:=by kernel_rfl
theorem Wi(v:Value)(W:World):(method 388 181 (.agg #[v]) "loop.example/g00272/impl.label").run prog W= .ok (134,.agg #[v]) W:=by kernel_rfl
theorem Wp(v:Value)(W:World):(method 388 183 (.agg #[v]) "loop.example/g00272/impl.takes").run prog W= .ok (238,.agg #[v]) W:=by kernel_rfl
theorem VT(v:Value)(W:World):(nilAhead 388 183 (.agg #[v]) "loop.example/g00272/impl.takes").run prog W= .ok (some false) W:=by kernel_rfl
theorem Wn(v:Value)(W:World):(method 388 183 (.agg #[v]) "loop.example/g00272/impl.label").run prog W= .ok (134,.agg #[v]) W:=by kernel_rfl
theorem Kr{ops:Array Oper}{o:Oper}{a:Act}{w:World}{K:Act->World->Prop}{Q:Exit->Act->World->Prop}{E:Prop}(hw:Region.wanted o (yielded ops a.tmps)=true)(x:Operand)(nm:String)(ats:Array TypeId)
 (ho:o.op= .call {callee:= .invoke x nm,args:=#[],argTypes:=ats})(T:TypeId)(v r:Value)(f:Nat)(hv:a.eval x= .iface T v)(hm:∀W,(method 388 T v nm).run prog W= .ok (f,r) W)(eg:∀args w,(callFunc f args).run prog w= .ok (.enter f args) w)
 (d:Option Nat)(hd:o.dst=d)(R:Value->World->Prop)(hc:Calls prog f #[r] w fun e w'=>∃v,e= .returned v/\R v w')(h:∀v w',R v w'->K (a.put d v) w'):
 if Region.wanted o (yielded ops a.tmps)=true then Oper.wp prog o a w K Q else E:=by
 rw[if_pos hw];have e:(execOp a.eval o).run prog w= .ok (.enter f #[r]) w:=by
  unfold execOp;simp only[ho,resolve,invoke,callMethod,Sem.run_bind,List.map_toArray,List.map_nil,hv];simp[go_sem,hm,eg]
 unfold Oper.wp;rw[e,Oper.upon_enter];exact hc.mono fun e w' ⟨v,he,hr⟩=>by subst he;rw[hd];exact h v w' hr
theorem Rc{ops:Array Oper}{o:Oper}{a:Act}{w:World}{K:Act->World->Prop}{Q:Exit->Act->World->Prop}{E:Prop}(hw:Region.wanted o (yielded ops a.tmps)=true)(x y:Operand)(nm:String)(ats:Array TypeId)
 (ho:o.op= .call {callee:= .invoke x nm,args:=#[y],argTypes:=ats})(T:TypeId)(v r:Value)(f:Nat)(hv:a.eval x= .iface T v)(hm:∀W,(method 388 T v nm).run prog W= .ok (f,r) W)(eg:∀args w,(callFunc f args).run prog w= .ok (.enter f args) w)(v1:Value)(hv1:a.eval y=v1)
 (d:Option Nat)(hd:o.dst=d)(R:Value->World->Prop)(hc:Calls prog f #[r,v1] w fun e w'=>∃v,e= .returned v/\R v w')(h:∀v w',R v w'->K (a.put d v) w'):
 if Region.wanted o (yielded ops a.tmps)=true then Oper.wp prog o a w K Q else E:=by
 rw[if_pos hw];have e:(execOp a.eval o).run prog w= .ok (.enter f #[r,v1]) w:=by
  unfold execOp;simp only[ho,resolve,invoke,callMethod,Sem.run_bind,List.map_toArray,List.map_cons,List.map_nil,hv,hv1];simp[go_sem,hm,eg]
 unfold Oper.wp;rw[e,Oper.upon_enter];exact hc.mono fun e w' ⟨v,he,hr⟩=>by subst he;rw[hd];exact h v w' hr
theorem TV{X:Ae}{s:Al}{lt:List Ae}{lo:List Ab}{t:Nat}(hk:s.kind=6∨s.kind=7∨s.kind=8∨s.kind=9∨s.kind=10∨s.kind=13∨s.kind=15)(h:Cd X lo s.id (Im s.kind)=none):FV X s lt lo t 4 ⟨#[]⟩ lt lo:=by
 rcases hk with hk|hk|hk|hk|hk|hk|hk
 ·exact .k6 hk (.inl ⟨by rw[hk]at h;exact h,rfl,rfl,rfl,rfl⟩)
 ·exact .k7 hk (.inl ⟨by rw[hk]at h;exact h,rfl,rfl,rfl,rfl⟩)
 ·exact .k8 hk (.inl ⟨by rw[hk]at h;exact h,rfl,rfl,rfl,rfl⟩)
 ·exact .k9 hk (.inl ⟨by rw[hk]at h;exact h,rfl,rfl,rfl,rfl⟩)
 ·exact .k10 hk (.inl ⟨by rw[hk]at h;exact h,rfl,rfl,rfl,rfl⟩)
 ·exact .k13 hk (.inl ⟨by rw[hk]at h;exact h,rfl,rfl,rfl,rfl⟩)
 ·exact .k15 hk (.inl ⟨by rw[hk]at h;exact h,rfl,rfl,rfl,rfl⟩)
theorem aZ{X:Ae}{s:Al}{lt:List Ae}{lo:List Ab}{t u:Nat}(hk:s.kind=6∨s.kind=9∨s.kind=10)(h:Cd X lo s.id (Im s.kind)=some u)(hc:Ap X (Aa lo u).b1 (Aa lo u).c1=false):FV X s lt lo t 4 ⟨#[]⟩ lt lo:=by
 rcases hk with hk|hk|hk
 ·exact .k6 hk (.inr ⟨u,by rw[hk]at h;exact h,.inl ⟨hc,rfl,rfl,rfl,rfl⟩⟩)
 ·exact .k9 hk (.inr ⟨u,by rw[hk]at h;exact h,.inl ⟨hc,rfl,rfl,rfl,rfl⟩⟩)
 ·exact .k10 hk (.inr ⟨u,by rw[hk]at h;exact h,.inl ⟨hc,rfl,rfl,rfl,rfl⟩⟩)
def Kd(s:Al)(kd:Int)(T f:Nat)(tk:Bool):Prop:=
 (kd=1/\T=177/\f=235/\tk=(s.kind==6||s.kind==7||s.kind==8))∨(kd=2/\T=179/\f=236/\tk=(s.kind==9||s.kind==10))∨(kd=3/\T=181/\f=237/\tk=(s.kind==15))∨(kd=4/\T=183/\f=238/\tk=(s.kind==13))
theorem bN{s:Al}{o:Ab}(h:MN o):∃T f tk,Et o.kind=T/\Kd s o.kind T f tk:=by
 have hk:=h.kind;unfold GU at hk;by_cases h1:o.kind=1
 ·exact⟨_,_,_,by rw[h1];rfl,.inl ⟨h1,rfl,rfl,rfl⟩⟩
 ·by_cases h2:o.kind=2
  ·exact⟨_,_,_,by rw[h2];rfl,.inr (.inl ⟨h2,rfl,rfl,rfl⟩)⟩
  ·by_cases h3:o.kind=3
   ·exact⟨_,_,_,by rw[h3];rfl,.inr (.inr (.inl ⟨h3,rfl,rfl,rfl⟩))⟩
   ·by_cases h4:o.kind=4
    ·exact⟨_,_,_,by rw[h4];rfl,.inr (.inr (.inr ⟨h4,rfl,rfl,rfl⟩))⟩
    ·rw[if_neg h1,if_neg h2,if_neg h3,if_neg h4]at hk;cases hk
theorem Kd.meth{s:Al}{kd:Int}{T f:Nat}{tk:Bool}(h:Kd s kd T f tk)(v:Value):(∀W,(method 388 T (.agg #[v]) "loop.example/g00272/impl.takes").run prog W= .ok (f,.agg #[v]) W)/\(∀W,(method 388 T (.agg #[v]) "loop.example/g00272/impl.label").run prog W= .ok (134,.agg #[v]) W)/\(∀args w,(callFunc f args).run prog w= .ok (.enter f args) w)/\(∀W,Calls prog f #[.agg #[v],s.kind] W fun e w'=>∃r,e= .returned r/\(r= .bool tk/\Below W W w'))/\(∀W,(nilAhead 388 T (.agg #[v]) "loop.example/g00272/impl.takes").run prog W= .ok (some false) W):=by
 rcases h with⟨_,rfl,rfl,rfl⟩|⟨_,rfl,rfl,rfl⟩|⟨_,rfl,rfl,rfl⟩|⟨_,rfl,rfl,rfl⟩
 ·exact⟨VZ v,Wc v,enters_of func235 (by kernel_rfl) rfl,fun W=>(KG v s.kind W).mono fun _ _ h=>⟨_,h.1,rfl,h.2⟩,We v⟩
 ·exact⟨VI v,VM v,enters_of func236 (by kernel_rfl) rfl,fun W=>(MG v s.kind W).mono fun _ _ h=>⟨_,h.1,rfl,h.2⟩,VU v⟩
 ·exact⟨VQ v,Wi v,enters_of func237 (by kernel_rfl) rfl,fun W=>(Pk v s.kind W).mono fun _ _ h=>⟨_,h.1,rfl,h.2⟩,Wv v⟩
 ·exact⟨Wp v,Wn v,enters_of func238 (by kernel_rfl) rfl,fun W=>(M7 v s.kind W).mono fun _ _ h=>⟨_,h.1,rfl,h.2⟩,VT v⟩
theorem Kd.no{s:Al}{kd:Int}{T f:Nat}(h:Kd s kd T f false)(hk:s.kind=6∨s.kind=7∨s.kind=8∨s.kind=9∨s.kind=10∨s.kind=13∨s.kind=15):kd≠Im s.kind:=by
 unfold Kd at h;rcases hk with hk|hk|hk|hk|hk|hk|hk<;>rw[hk]at h ⊢ <;>rcases h with⟨rfl,_,_,h⟩|⟨rfl,_,_,h⟩|⟨rfl,_,_,h⟩|⟨rfl,_,_,h⟩<;>revert h<;>decide
theorem Kd.yes{s:Al}{kd:Int}{T f:Nat}(h:Kd s kd T f true)(hk:s.kind=6∨s.kind=7∨s.kind=8∨s.kind=9∨s.kind=10∨s.kind=13∨s.kind=15):kd=Im s.kind:=by
 unfold Kd at h;rcases hk with hk|hk|hk|hk|hk|hk|hk<;>rw[hk]at h ⊢ <;>rcases h with⟨rfl,_,_,h⟩|⟨rfl,_,_,h⟩|⟨rfl,_,_,h⟩|⟨rfl,_,_,h⟩<;>revert h<;>decide
section
variable {E:Nat->Addr}{w:World}{B P:Nat}{s:Al}{g ca q co:Nat}{lt:List Ae}{lo:List Ab}{t c C:Nat}{nb:Nat->Nat}{kv:Nat->Value}{K:Nat->List Int}{X:Ae}
theorem ZN(v:Env E w B P s g ca q co lt lo t c C nb kv K X)(hk:s.kind=6∨s.kind=7∨s.kind=8∨s.kind=9∨s.kind=10∨s.kind=13∨s.kind=15):
 Calls prog 78 #[.pointer P] w fun e w'=>∃tx r,e= .returned (.tuple #[.string tx,r])/\Kc E B P s lt lo t X (.map (some c)) w w' tx r:=by
 have VV:=hid v;obtain⟨⟨k0,k1,k2,k3,k4,k5,k6,k7,k8,k9⟩,k10,k11,k12,k13⟩:=v.h.wk.jZ;have TH:=hid (IZ w B P s g ca q co lt lo t c C lo.length _ nb kv K v.h v.n nr (Cm v.ok) s.id (cM (GP v.so)));have HK:=hid hk;clear v hk;go_enter func78,ntmps78
 go_wp2_with fail
 refine TH.out.mono ?_;rintro e w1 ⟨hr,b1⟩;have A1:=hid b1;clear TH b1 k0 k1 k2 k3 k4 k5 k6 k7 k8 k9 k10 k11 k12 k13;rcases hr with⟨hf,rfl⟩|⟨u,hf,rfl⟩
 ·have AN:Hid (FV X s lt lo t 4 ⟨#[]⟩ lt lo):=hid (TV HK (by unfold Cd;rw[show Hf lo s.id=none from hf]));clear hf;have D0:=hid (Below.refl w1 w1).drew;have A2:=hid (Af A1 D0);go_upto_region 2 with fail
  refine Am 16 (fun W=>Below w1 w1 W) (by kernel_rfl) ?_;refine tr 0 17 (.nilIface) D0 ?_;refine tr 1 18 (.bool true) D0 ?_;refine tr 2 19 (.bool true) D0 ?_;refine Pe 11 [(3,20),(4,21),(5,22),(6,23),(7,24),(8,25),(9,26),(10,27),(11,28),(12,29),(13,30)] rfl (by kernel_rfl) D0 ?_;simp only[EZ,ap,List.set];refine tr 14 31 (.bool true) D0 ?_;refine tr 15 16 (.bool true) D0 ?_;refine Ai (by kernel_rfl) ?_ _;have e9:=((VV.out.below A2).e 6 (by omega) (by omega)).1;have sz:=(VV.out.below A2).hB;go_wp2_with fail
  refine(Bq 257 (.pointer (some (E 6))) _).mono ?_;rintro e w9 ⟨rfl,rfl⟩;go_wp2;go_ret2;have b3:=Af A2 (Be _ (.cells #[.int .i64 4,.iface 257 (.pointer (some (E 6)))] 54));exact⟨_,_,rfl,.no (.of (VV.out.below b3).h.wk) (b3.mono VV.out.hB) (Cn _ E sz 4 (by decide) 6 (by decide) (by decide) (by decide) (by first|rfl|simp)) (by decide) (AN)⟩
 ·obtain⟨ul,_⟩:=AE hf;have HF:Hid (Hf lo s.id=some u):=hid hf;obtain⟨T,f,tk,et,HKd⟩:=bN (s:=s) (VV.out.obj ul);rw[et];have KD:=hid HKd;obtain⟨MT,ML,EN,TK,NA⟩:=HKd.meth (.pointer (some ⟨q,u*10,none⟩));have HNA:=hid NA;have HMT:=hid MT;have HML:=hid ML;have HEN:=hid EN;have HTK:=hid TK;clear hf et HKd MT ML EN TK NA;have EL:Hid (∀args w,(callFunc 134 args).run prog w= .ok (.enter 134 args) w):=hid (enters_of func134 (by kernel_rfl) rfl);have ES:Hid (∀args w,(callFunc 122 args).run prog w= .ok (.enter 122 args) w):=hid (enters_of func122 (by kernel_rfl) rfl);have EC:Hid (∀args w,(callFunc 114 args).run prog w= .ok (.enter 114 args) w):=hid (enters_of func114 (by kernel_rfl) rfl);have EW:Hid (∀args w,(callFunc 123 args).run prog w= .ok (.enter 123 args) w):=hid (enters_of func123 (by kernel_rfl) rfl);have BX:Hid (∀W,Below w1 w1 W->Ah W P (.cells (If s g lt.length ca q lo.length co t (.map (some c))) 91)/\Fg W g (t*7) X):=hid (fun W hW=>by
   have V:=VV.out.below (Af A1 hW);have C:=(V.h.st.jJ V.ht).1;rw[<-V.hX]at C;exact⟨V.h.wk,C⟩)
  have n1:Na #[.pointer (some ⟨q,u*10,none⟩)]:=⟨⟩;have PL:Hid (∀W,Below w1 w1 W->Calls prog 134 #[.agg n1] W fun e w'=>∃v,e= .returned v/\(v= .agg #[.int .i64 (Aa lo u).b1,.slice (Aa lo u).c1.a (Aa lo u).c1.n (Aa lo u).c1.k]/\Below W W w')):=hid (fun W hW=>by
   have V:=VV.out.below (Af A1 hW);obtain⟨CO,ql⟩:=V.h.st.jF ul (Cm V.ok);rw[<-AM ul]at CO;exact(Lp q (u*10) (Aa lo u).b1 (Aa lo u).c1 W ql CO.c3 CO.c4).mono fun _ _ h=>⟨_,h.1,rfl,h.2⟩)
  have D0:=hid (Below.refl w1 w1).drew;go_upto_region 2 with fail
  refine Am 16 (fun W=>Below w1 w1 W) (by kernel_rfl) ?_;refine tr 0 17 (.iface T (.agg n1)) D0 ?_;refine tr 1 18 (.bool false) D0 ?_;refine tr 2 19 (.bool false) D0 ?_;refine tr 3 20 (.iface T (.agg n1)) D0 ?_;have n2:Nv (.pointer P):=⟨⟩;refine tr 4 21 n2 D0 ?_;refine tr 5 22 n2 D0 ?_;refine tr 6 23 n2 D0 ?_;have n6:Nv (.pointer (some ⟨P,1,none⟩)):=⟨⟩;refine tr 7 24 n6 D0 ?_;refine tr 8 25 (.int .i64 s.kind) D0 ?_ (hy:=fun W h=>by obtain⟨⟨k0,k1,k2,k3,k4,k5,k6,k7,k8,k9⟩,k10,k11,k12,k13⟩:=(BX W h).1.jZ;go_simp);refine tr 9 26 (.func (.method "loop.example/g00272/impl.takes") #[(.iface T (.agg n1))] #[]) D0 ?_;refine tr 10 27 (.func (.method "loop.example/g00272/impl.takes") #[(.iface T (.agg n1))] #[]) D0 ?_ (hy:=fun W h=>by have y:=HNA.out W;go_simp);refine tr 11 28 (.iface T (.agg n1)) D0 ?_;refine Ac (i:=12) (by kernel_rfl) rfl ?_;intro K hK;refine Rc (by rfl) _ _ _ _ (by rfl) T _ _ f (by rfl) HMT HEN _ (by rfl) (some 29) (by rfl) _ (HTK _) ?_;rintro v w2 ⟨rfl,b2⟩;have V1:=hid (Af D0 b2);refine hK _ _ (fun _=>V1) ?_;clear hK K b2;simp only[ap,List.set];refine tr 13 30 (.bool (!tk)) V1 ?_;refine tr 14 31 (.bool (!tk)) V1 ?_;refine tr 15 16 (.bool (!tk)) V1 ?_;refine Ai (by kernel_rfl) ?_ _;have A2:=hid (Af A1 V1);cases tk with
  |false=>
   have AN:Hid (FV X s lt lo t 4 ⟨#[]⟩ lt lo):=hid (TV HK (by unfold Cd;rw[HF.out];simp only;rw[if_neg (by simp[KD.out.no HK.out])]));have e9:=((VV.out.below A2).e 6 (by omega) (by omega)).1;have sz:=(VV.out.below A2).hB;go_wp2_with fail
   refine(Bq 257 (.pointer (some (E 6))) _).mono ?_;rintro e w9 ⟨rfl,rfl⟩;go_wp2;go_ret2;have b3:=Af A2 (Be _ (.cells #[.int .i64 4,.iface 257 (.pointer (some (E 6)))] 54));exact⟨_,_,rfl,.no (.of (VV.out.below b3).h.wk) (b3.mono VV.out.hB) (Cn _ E sz 4 (by decide) 6 (by decide) (by decide) (by decide) (by first|rfl|simp)) (by decide) (AN)⟩
  |true=>
   have HW:=hid (KD.out.yes HK);go_upto_region 4 with fail
   have D1:=hid V1.out.drew;refine Am 11 (fun W=>Below w1 w1 W) (by kernel_rfl) ?_;refine tr 0 35 n2 D1 ?_;refine tr 1 36 n2 D1 ?_;have n5:Nv (.pointer (some ⟨P,12,none⟩)):=⟨⟩;refine tr 2 37 n5 D1 ?_;have n4:Nv (.pointer (some ⟨g,t*7,none⟩)):=⟨⟩;refine tr 3 38 n4 D1 ?_ (hy:=fun W h=>by obtain⟨⟨k0,k1,k2,k3,k4,k5,k6,k7,k8,k9⟩,k10,k11,k12,k13⟩:=(BX W h).1.jZ;go_simp);refine tr 4 39 n4 D1 ?_;have n3:Nv (.agg X):=⟨⟩;refine tr 5 40 n3 D1 ?_ (hy:=fun W h=>by have C:=(BX W h).2;have y0:=C.c0;have y1:=C.c1;have y2:W.cell? ⟨g,t*7+2,none⟩=some (.slice X.c1.a X.c1.n X.c1.k):=C.c2;have y3:=C.c3;have y4:W.cell? ⟨g,t*7+4,none⟩=some (.slice X.c2.a X.c2.n X.c2.k):=C.c4;have y5:W.cell? ⟨g,t*7+5,none⟩=some (.slice X.own.a X.own.n X.own.k):=C.c5;have y6:=C.c6;go_simp);refine tr 6 41 (.iface T (.agg n1)) D1 ?_;refine Ac (i:=7) (by kernel_rfl) rfl ?_;intro K hK;refine Kr (by rfl) _ _ _ (by rfl) T _ _ _ (by rfl) HML EL (some 42) (by rfl) _ (PL _ D1) ?_;rintro v w3 ⟨rfl,b3⟩;have V2:=hid (Af D1 b3);refine hK _ _ (fun _=>V2) ?_;clear hK K b3;simp only[ap,List.set];have PS:=hid (Eg (VV.out.sees u ul _ (Af A1 V2)));refine Ac (i:=8) (by kernel_rfl) rfl ?_;intro K hK;refine AJ (by rfl) 122 _ _ _ (by rfl) ES _ _ (by rfl) (by rfl) (some 43) (by rfl) _ PS ?_;rintro v w4 ⟨rfl,b4⟩;have V3:=hid (Af V2 b4);refine hK _ _ (fun _=>V3) ?_;clear hK K b4 PS;simp only[ap,List.set];refine tr 9 44 (.bool (!Hp X (Aa lo u).b1 (Aa lo u).c1)) V3 ?_;refine tr 10 34 (.bool (!Hp X (Aa lo u).b1 (Aa lo u).c1)) V3 ?_;refine Ai (by kernel_rfl) ?_ _;have A3:=hid (Af A1 V3);cases hs:Hp X (Aa lo u).b1 (Aa lo u).c1 with
   |false=>
    have AN:Hid (FV X s lt lo t 4 ⟨#[]⟩ lt lo):=hid (TV HK (by unfold Cd;rw[HF.out];simp only;rw[if_neg (by simp[hs])]));clear hs;have e9:=((VV.out.below A3).e 11 (by omega) (by omega)).1;have sz:=(VV.out.below A3).hB;go_wp2_with fail
    refine(Bq 257 (.pointer (some (E 11))) _).mono ?_;rintro e w9 ⟨rfl,rfl⟩;go_wp2;go_ret2;have b3:=Af A3 (Be _ (.cells #[.int .i64 4,.iface 257 (.pointer (some (E 11)))] 54));exact⟨_,_,rfl,.no (.of (VV.out.below b3).h.wk) (b3.mono VV.out.hB) (Cn _ E sz 4 (by decide) 11 (by decide) (by decide) (by decide) (by first|rfl|simp)) (by decide) (AN)⟩
   |true=>
    have HU:Hid (Cd X lo s.id (Im s.kind)=some u):=hid (by unfold Cd;rw[HF.out];simp only;rw[if_pos (by simp[hs,HW.out])]);clear hs;have V2:=V3;clear V1;go_upto_region 6 with fail
    have D2:=hid V2.out.drew;have PW:Hid (Calls prog 123 #[s.kind] w4.drew fun e w'=>∃v,e= .returned v/\(v= .bool (s.kind==6||s.kind==9||s.kind==10)/\Below w4.drew.heap.size w4.drew w')):=hid ((UY s.kind w4.drew).mono fun _ _ h=>⟨_,h.1,rfl,h.2⟩);refine Am 19 (fun W=>Below w1 w1 W) (by kernel_rfl) ?_;refine tr 0 48 n2 D2 ?_;refine tr 1 49 n2 D2 ?_;refine tr 2 50 n2 D2 ?_;refine tr 3 51 n6 D2 ?_;refine tr 4 52 (.int .i64 s.kind) D2 ?_ (hy:=fun W h=>by obtain⟨⟨k0,k1,k2,k3,k4,k5,k6,k7,k8,k9⟩,k10,k11,k12,k13⟩:=(BX W h).1.jZ;go_simp);refine Ac (i:=5) (by kernel_rfl) rfl ?_;intro K hK;refine Ao (by rfl) 123 _ _ (by rfl) EW _ (by rfl) (some 53) (by rfl) _ PW ?_;rintro v w5 ⟨rfl,b5⟩;have V3:=hid (Af D2 b5);refine hK _ _ (fun _=>V3) ?_;clear hK K b5 PW;simp only[ap,List.set];refine tr 6 54 (.bool (s.kind==6||s.kind==9||s.kind==10)) V3 ?_;cases hw:(s.kind==6||s.kind==9||s.kind==10)with
    |false=>
     refine Pe 10 [(7,55),(8,56),(9,57),(10,58),(11,59),(12,60),(13,61),(14,62),(15,63),(16,64)] rfl (by kernel_rfl) V3 ?_;simp only[EZ,ap,List.set];refine tr 17 65 (.bool false) V3 ?_;refine tr 18 47 (.bool false) V3 ?_;refine Ai (by kernel_rfl) ?_ _;have A4:=hid (Af A1 V3);have NW:=hid hw;clear hw;rcases KD with⟨_,rfl,rfl,hq⟩|⟨_,rfl,rfl,hq⟩|⟨_,rfl,rfl,hq⟩|⟨_,rfl,rfl,hq⟩
     ·have HQ0:s.kind=7∨s.kind=8:=by
       have nw:=NW.out;have hq':(s.kind=6∨s.kind=7)∨s.kind=8:=(by simpa[Bool.or_eq_true]using hq.symm);rcases hq' with(h|h)|h
       ·exfalso;rw[h]at nw;revert nw;decide
       ·exact .inl h
       ·exact .inr h
      have HQ:=hid HQ0;clear hq HQ0;have eW:Im s.kind=1:=(by(rcases HQ with h|h<;>rw[h]<;>decide));have HU2:Hid (Cd X lo s.id 1=some u):=hid (by rw[<-eW];exact HU.out);clear eW;have a0:=QA 172 (.agg n1) w5;have A5:=hid (Af A4 (Be w5 (.cells n1 177)));have CC:=hid (bT (VV.out.below A5) HU2 (.inr HQ));go_wp2_with fail
      refine CC.out.mono ?_;rintro e w9 ⟨tx,r,rfl,rp⟩;have RP:=hid (rp.from (A5.out.mono VV.out.hB));clear rp;go_wp2;go_ret2;exact⟨_,_,rfl,RP⟩
     ·exfalso;have nw:=NW.out;have hq':s.kind=9∨s.kind=10:=(by simpa[Bool.or_eq_true]using hq.symm);rcases hq' with h|h<;>rw[h]at nw<;>revert nw<;>decide
     ·have HQ0:s.kind=15:=by
       simpa using hq.symm
      have HQ:=hid HQ0;clear hq HQ0;have eW:Im s.kind=3:=(by(rw[HQ.out];decide));have HU2:Hid (Cd X lo s.id 3=some u):=hid (by rw[<-eW];exact HU.out);clear eW;have a0:=QY 172 181 (.agg n1) w5 (by decide);have a1:=Xb 172 181 (.agg n1) w5 (by decide);have a2:=Vv 172 (.agg n1) w5;have A5:=hid (Af A4 (Be w5 (.cells n1 181)));have CC:=hid (cV (VV.out.below A5) HU2 HQ);go_wp2_with fail
      refine CC.out.mono ?_;rintro e w9 ⟨tx,rfl,rp⟩;have RP:=hid (rp.from (A5.out.mono VV.out.hB));clear rp;go_wp2;go_ret2;exact⟨_,_,rfl,RP⟩
     ·have HQ0:s.kind=13:=by
       simpa using hq.symm
      have HQ:=hid HQ0;clear hq HQ0;have eW:Im s.kind=4:=(by(rw[HQ.out];decide));have HU2:Hid (Cd X lo s.id 4=some u):=hid (by rw[<-eW];exact HU.out);clear eW;have a0:=QY 172 183 (.agg n1) w5 (by decide);have a1:=Xb 172 183 (.agg n1) w5 (by decide);have a2:=X4 172 183 (.agg n1) w5 (by decide);have a3:=ZT 172 (.agg n1) w5;have A5:=hid (Af A4 (Be w5 (.cells n1 183)));have CC:=hid (cO (VV.out.below A5) HU2 HQ);go_wp2_with fail
      refine CC.out.mono ?_;rintro e w9 ⟨r,rfl,rp⟩;have RP:=hid (rp.from (A5.out.mono VV.out.hB));clear rp;go_wp2;go_ret2;exact⟨_,_,rfl,RP⟩
    |true=>
     refine tr 7 55 n2 V3 ?_;refine tr 8 56 n2 V3 ?_;refine tr 9 57 n5 V3 ?_;refine tr 10 58 n4 V3 ?_ (hy:=fun W h=>by obtain⟨⟨k0,k1,k2,k3,k4,k5,k6,k7,k8,k9⟩,k10,k11,k12,k13⟩:=(BX W h).1.jZ;go_simp);refine tr 11 59 n4 V3 ?_;refine tr 12 60 n3 V3 ?_ (hy:=fun W h=>by have C:=(BX W h).2;have y0:=C.c0;have y1:=C.c1;have y2:W.cell? ⟨g,t*7+2,none⟩=some (.slice X.c1.a X.c1.n X.c1.k):=C.c2;have y3:=C.c3;have y4:W.cell? ⟨g,t*7+4,none⟩=some (.slice X.c2.a X.c2.n X.c2.k):=C.c4;have y5:W.cell? ⟨g,t*7+5,none⟩=some (.slice X.own.a X.own.n X.own.k):=C.c5;have y6:=C.c6;go_simp);refine tr 13 61 (.iface T (.agg n1)) V3 ?_;refine Ac (i:=14) (by kernel_rfl) rfl ?_;intro K hK;refine Kr (by rfl) _ _ _ (by rfl) T _ _ _ (by rfl) HML EL (some 62) (by rfl) _ (PL _ V3) ?_;rintro v w6 ⟨rfl,b6⟩;have V4:=hid (Af V3 b6);refine hK _ _ (fun _=>V4) ?_;clear hK K b6;simp only[ap,List.set];have PS:=hid (Eg (VV.out.changes u ul _ (Af A1 V4)));refine Ac (i:=15) (by kernel_rfl) rfl ?_;intro K hK;refine AJ (by rfl) 114 _ _ _ (by rfl) EC _ _ (by rfl) (by rfl) (some 63) (by rfl) _ PS ?_;rintro v w7 ⟨rfl,b7⟩;have V5:=hid (Af V4 b7);refine hK _ _ (fun _=>V5) ?_;clear hK K b7 PS;simp only[ap,List.set];refine tr 16 64 (.bool (!Ap X (Aa lo u).b1 (Aa lo u).c1)) V5 ?_;refine tr 17 65 (.bool (!Ap X (Aa lo u).b1 (Aa lo u).c1)) V5 ?_;refine tr 18 47 (.bool (!Ap X (Aa lo u).b1 (Aa lo u).c1)) V5 ?_;refine Ai (by kernel_rfl) ?_ _;have A4:=hid (Af A1 V5);have KW:Hid (s.kind=6∨s.kind=9∨s.kind=10):=hid (by simpa[Bool.or_eq_true,or_assoc]using hw);clear hw;cases hc:Ap X (Aa lo u).b1 (Aa lo u).c1 with
     |false=>
      have AN:Hid (FV X s lt lo t 4 ⟨#[]⟩ lt lo):=hid (aZ KW HU hc);clear hc;have e9:=((VV.out.below A4).e 8 (by omega) (by omega)).1;have sz:=(VV.out.below A4).hB;go_wp2_with fail
      refine(Bq 257 (.pointer (some (E 8))) _).mono ?_;rintro e w9 ⟨rfl,rfl⟩;go_wp2;go_ret2;have b3:=Af A4 (Be _ (.cells #[.int .i64 4,.iface 257 (.pointer (some (E 8)))] 54));exact⟨_,_,rfl,.no (.of (VV.out.below b3).h.wk) (b3.mono VV.out.hB) (Cn _ E sz 4 (by decide) 8 (by decide) (by decide) (by decide) (by first|rfl|simp)) (by decide) (AN)⟩
     |true=>
      have HC:=hid hc;clear hc;rcases KD with⟨_,rfl,rfl,hq⟩|⟨_,rfl,rfl,hq⟩|⟨_,rfl,rfl,hq⟩|⟨_,rfl,rfl,hq⟩
      ·have HQ0:s.kind=6:=by
        rcases KW with h|h|h<;>first|exact h|exact .inl h|exact .inr h|(exfalso;rw[h]at hq;revert hq;decide)
       have HQ:=hid HQ0;clear hq HQ0;have eW:Im s.kind=1:=(by(rw[HQ.out];decide));have HU2:Hid (Cd X lo s.id 1=some u):=hid (by rw[<-eW];exact HU.out);clear eW;have a0:=QA 172 (.agg n1) w7;have A5:=hid (Af A4 (Be w7 (.cells n1 177)));have CC:=hid (bT (VV.out.below A5) HU2 (.inl ⟨HQ,HC⟩));go_wp2_with fail
       refine CC.out.mono ?_;rintro e w9 ⟨tx,r,rfl,rp⟩;have RP:=hid (rp.from (A5.out.mono VV.out.hB));clear rp;go_wp2;go_ret2;exact⟨_,_,rfl,RP⟩
      ·have HQ0:s.kind=9∨s.kind=10:=by
        rcases KW with h|h|h<;>first|exact h|exact .inl h|exact .inr h|(exfalso;rw[h]at hq;revert hq;decide)
       have HQ:=hid HQ0;clear hq HQ0;have eW:Im s.kind=2:=(by(rcases HQ with h|h<;>rw[h]<;>decide));have HU2:Hid (Cd X lo s.id 2=some u):=hid (by rw[<-eW];exact HU.out);clear eW;have a0:=QY 172 179 (.agg n1) w7 (by decide);have a1:=ZM 172 (.agg n1) w7;have A5:=hid (Af A4 (Be w7 (.cells n1 179)));have CC:=hid (cR (VV.out.below A5) HU2 HC HQ);go_wp2_with fail
       refine CC.out.mono ?_;rintro e w9 ⟨tx,r,rfl,rp⟩;have RP:=hid (rp.from (A5.out.mono VV.out.hB));clear rp;go_wp2;go_ret2;exact⟨_,_,rfl,RP⟩
      ·exfalso;rcases KW with h|h|h<;>rw[h]at hq<;>revert hq<;>decide
      ·exfalso;rcases KW with h|h|h<;>rw[h]at hq<;>revert hq<;>decide
end
section
variable {E:Nat->Addr}{w W:World}{B P:Nat}{s:Al}{g ca q co:Nat}{lt:List Ae}{lo:List Ab}{t c C:Nat}{nb:Nat->Nat}{kv:Nat->Value}{K:Nat->List Int}{X:Ae}
theorem Ou.no{m:Value}{w':World}{tx:ByteArray}{r:Value}{c:Int}(kp:KP w' P)(hb:Below B w w')(ht:Told w' B E r c)(hc:c≠0)(ha:FV X s lt lo t c ⟨#[]⟩ lt lo):Ou E B P s lt lo t X m w w' tx r:=⟨hb,.inl ⟨kp,c,ht,hc,ha⟩⟩
theorem Ou.yes{m:Value}{w':World}{tx:ByteArray}{lt':List Ae}{lo':List Ab}{g' ca' q' co':Nat}(hb:Below B w w')(hs:Nc w' B P s g' ca' q' co' lt' lo' t m)(ha:FV X s lt lo t 0 tx lt' lo'):Ou E B P s lt lo t X m w w' tx .nilIface:=⟨hb,.inr ⟨rfl,_,_,_,_,_,_,_,hs,II.refl _,ha⟩⟩
theorem Env.sameT(v:Env E w B P s g ca q co lt lo t c C nb kv K X):lt.set t X=lt:=by rw[v.hX,Fi]
theorem cU(v:Env E w B P s g ca q co lt lo t c C nb kv K X)(h18:18<=B)(hk:s.kind=1):
 Calls prog 73 #[.pointer P] w fun e w'=>∃tx r,e= .returned (.tuple #[.string tx,r])/\Ou E B P s lt lo t X (.map (some c)) w w' tx r:=by
 have i:=v.thr.id;have m:=v.thr.made;have o:=I5 v.thr.own;by_cases hf:X.made=30∨X.own.n=10
 ·refine(Q0 E w B P s g ca q co lt lo t _ v.h v.e v.hB v.ht X v.hX hf).mono ?_;rintro e w' ⟨r,rfl,h1,h2,h3⟩;exact⟨_,r,rfl,.no (.of h1.wk) h2 h3 (by decide) (.k1 hk X v.sameT.symm rfl (.inl ⟨rfl,hf,rfl,rfl⟩))⟩
 ·have h1:X.made≠30:=fun e=>hf (.inl e);have h2:X.own.n≠10:=fun e=>hf (.inr e);refine(Sx w B P s g ca q co lt lo t _ v.h v.hB v.ht X v.hX h1 h2 (by omega) (by omega) (by omega) ⟨(CN (Av X).toNat).toArray⟩ (fun W hW=>I7 (Av X) W (by unfold Av;omega) (by unfold Av;omega) (v.tab.lowB hW h18))).mono ?_;rintro e w' ⟨a,cc,L,hL,rfl,hs,hb⟩;rw[Re (SR v.thr.own)]at hL;subst hL;exact⟨_,_,rfl,.yes hb hs.f (.k1 hk _ rfl rfl (.inr ⟨rfl,hf,rfl,a,cc,rfl⟩))⟩
theorem aD(v:Env E w B P s g ca q co lt lo t c C nb kv K X)(hk:s.kind=12):
 Calls prog 76 #[.pointer P] w fun e w'=>∃r,e= .returned r/\Ou E B P s lt lo t X (.map (some c)) w w' ⟨#[]⟩ r:=by
 have sf:=GP v.so;refine(Wa E w B P s g ca q co lt lo t _ v.h v.e v.h14 v.hB v.hs v.ht X v.hX (Ek X.b1 X.c1 X.own s.b1 s.c1) (Ek s.b1 s.c1 X.own X.b2 X.c2) (fun W hW=>Ko (v.xat.below hW).1 (v.xat.below hW).2.2 (v.hs W (hW.mono v.hB)).1 v.thr.l1 v.thr.own sf.l1) (fun W hW=>Ko (v.hs W (hW.mono v.hB)).1 (v.xat.below hW).2.2 (v.xat.below hW).2.1 sf.l1 v.thr.own v.thr.l2) rfl (by have:=(Bz sf.l1).2;omega)).mono ?_;rintro e w' ⟨r,x,c',rfl,h1,h2,h3,h4⟩;refine⟨r,rfl,?_⟩;rcases h4 with⟨rfl,a1,_⟩|⟨rfl,a1,d,a2,rfl⟩
 ·exact .no (.of h1.wk) h2 h3 (by decide) (.k12 hk X (v.sameT).symm rfl rfl (.inl ⟨rfl,a1,rfl⟩))
 ·rcases h3 with⟨_,rfl⟩|⟨h,_⟩
  ·exact .yes h2 h1.f (.k12 hk _ rfl rfl rfl (.inr ⟨rfl,a1,d,a2,rfl⟩))
  ·exact absurd rfl h
theorem aB(v:Env E w B P s g ca q co lt lo t c C nb kv K X)(hk:s.kind=14):
 Calls prog 77 #[.pointer P] w fun e w'=>∃r,e= .returned r/\Ou E B P s lt lo t X (.map (some c)) w w' ⟨#[]⟩ r:=by
 refine(Ww E w B P s g ca q co lt lo t _ v.h v.e v.h14 v.hB v.ht X v.hX (fun i j hij hj=>by have:=Ym v.thr.own i j hij hj;omega)).mono ?_;rintro e w' ⟨r,x,c',rfl,h1,h2,h3,h4⟩;refine⟨r,rfl,?_⟩;rcases h4 with⟨rfl,a1,_⟩|⟨rfl,a1,a,cc,rfl⟩
 ·exact .no (.of h1.wk) h2 h3 (by decide) (.k14 hk X (v.sameT).symm rfl rfl (.inl ⟨rfl,a1,rfl⟩))
 ·rcases h3 with⟨_,rfl⟩|⟨h,_⟩
  ·exact .yes h2 h1.f (.k14 hk _ rfl rfl rfl (.inr ⟨rfl,a1,a,cc,rfl⟩))
  ·exact absurd rfl h
theorem kinds{k:Int}(h:1<=k/\k<=15):k=1∨(k=2∨k=3∨k=4∨k=5)∨k=11∨k=12∨k=14∨(k=6∨k=7∨k=8∨k=9∨k=10∨k=13∨k=15):=by omega
theorem Y8(v:Env E w B P s g ca q co lt lo t c C nb kv K X)(h18:18<=B):
 Calls prog 45 #[.pointer P] w fun e w'=>∃tx r,e= .returned (.tuple #[.string tx,r])/\Ou E B P s lt lo t X (.map (some c)) w w' tx r:=by
 have VV:=hid v;obtain⟨⟨k0,k1,k2,k3,k4,k5,k6,k7,k8,k9⟩,k10,k11,k12,k13⟩:=v.h.wk.jZ;have kd:=(GP v.so).kind;clear v;rcases kinds kd with hk|hk|hk|hk|hk|hk
 ·have CC:=hid (cU VV h18 hk);rw[hk]at k1;clear hk kd;go_enter func45,ntmps45
  go_wp2_with fail
  refine CC.out.mono ?_;rintro e w9 ⟨tx,r,rfl,rp⟩;have RP:=hid rp;clear rp;go_wp2;go_ret2;exact⟨_,_,rfl,RP⟩
 ·have CC:=hid (Nt VV h18 hk);rcases hk with hk|hk|hk|hk;all_goals(
   rw[hk]at k1;clear hk kd;go_enter func45,ntmps45
   go_wp2_with fail
   refine CC.out.mono ?_;rintro e w9 ⟨tx,r,rfl,rp⟩;have RP:=hid rp;clear rp;go_wp2;go_ret2;exact⟨_,_,rfl,RP⟩)
 ·have CC:=hid (Yl VV hk);rw[hk]at k1;clear hk kd;go_enter func45,ntmps45
  go_wp2_with fail
  refine CC.out.mono ?_;rintro e w9 ⟨r,rfl,rp⟩;have RP:=hid rp.q;clear rp;go_wp2;go_ret2;exact⟨_,_,rfl,RP⟩
 ·have CC:=hid (aD VV hk);rw[hk]at k1;clear hk kd;go_enter func45,ntmps45
  go_wp2_with fail
  refine CC.out.mono ?_;rintro e w9 ⟨r,rfl,rp⟩;have RP:=hid rp;clear rp;go_wp2;go_ret2;exact⟨_,_,rfl,RP⟩
 ·have CC:=hid (aB VV hk);rw[hk]at k1;clear hk kd;go_enter func45,ntmps45
  go_wp2_with fail
  refine CC.out.mono ?_;rintro e w9 ⟨r,rfl,rp⟩;have RP:=hid rp;clear rp;go_wp2;go_ret2;exact⟨_,_,rfl,RP⟩
 ·have CC:=hid (ZN VV hk);rcases hk with hk|hk|hk|hk|hk|hk|hk;all_goals(
   rw[hk]at k1;clear hk kd;go_enter func45,ntmps45
   go_wp2_with fail
   refine CC.out.mono ?_;rintro e w9 ⟨tx,r,rfl,rp⟩;have RP:=hid rp.q;clear rp;go_wp2;go_ret2;exact⟨_,_,rfl,RP⟩)
end
theorem XU(E:Nat->Addr)(s:Al):YF E s:=fun v h=>Y8 v h
theorem QR(E:Nat->Addr)(a:Option Addr)(n cap:Nat)(w:World)(hb:1048576<n∨BytesAt w a n)(hv:Vx w E):
 Calls prog 3 #[.slice a n cap] w fun e w'=>e= .returned (.bool true)/\Below w w w':=by
 have HB:=hid hb;have HV:=hid hv;clear hb hv;go_enter func3,ntmps3
 go_wp2_with fail
 refine(Zq a n cap w).mono ?_;rintro e w0 ⟨rfl,rfl⟩;by_cases hbig:1048576<n
 ·have e1:decide (1048576<n)=true:=decide_eq_true hbig;rw[e1];go_wp2;go_ret;exact⟨rfl,Below.refl _ _⟩
 have e1:decide (1048576<n)=false:=decide_eq_false hbig;rw[e1];clear e1;go_wp2_with fail
 refine(Ri a n cap w0 (by omega) (HB.out.resolve_left hbig)).mono ?_;rintro e w1 ⟨lt,lo,g,ca,q,co,s,rfl,ks,kd,hs,b1⟩;have n5:Na #[.slice g lt.length ca,.slice q lo.length co]:=⟨⟩;have n12:Nw (w1.alloc (.cells n5 27)):=⟨⟩;have b2:Below w1 w1 ((n12:World).alloc (.cells s 32)):=(Be w1 _).alloc (by simp) _;have n4:Na s:=⟨⟩;have n3:Nw ((n12:World).alloc (.cells n4 32)):=⟨⟩;have KNs:Hid (Kn w0 n3 lt lo (some ⟨g,0,none⟩) (some ⟨q,0,none⟩) ca co):=hid ⟨(ks.below b2).f,kd.F⟩;have n10:Nv (.slice g lt.length ca):=⟨⟩;have n11:Nv (.slice q lo.length co):=⟨⟩;have KSs:Hid (By n3 w0 n10 n11 lt lo):=hid (ks.below b2);have IDR:=hid hs.2.2.2;have SAs:Hid (s.at n3):=hid ⟨(hs.1.below b2).1,(hs.2.1.below b2).1,Nat.le_trans hs.2.2.1 (by unfold maxLen;omega)⟩;have LB:Hid (Below w0 w0 n3):=hid (Af b1 b2);have CB:Hid (Ah n3 w1 (.cells n5 27)):=hid ((Ah.new w1 _).alloc _);have SB:Hid (Ah n3 (w1.heap.size+1) (.cells n4 32)):=hid (by have:=Ah.new n12 (.cells n4 32);simpa using this);clear ks kd hs b1 b2 HB hbig;go_upto_region 4 with fail
 generalize (n3:World)=W2 at *;generalize w1.heap.size=C at *;have DN:Hid (Calls prog 6 #[.agg n5,.agg n4] W2 fun e w'=>bj (Cp (some ⟨g,0,none⟩) ca (some ⟨q,0,none⟩) co lt lo) s W2 e w'):=hid (KNs.out.done (XU E s) SAs (HV.out.below LB));obtain⟨k0,k1⟩:=CB.out.two;obtain⟨s0,s1,s2,s3,s4,s5,s6,s7,s8,s9⟩:=SB.out.jE;go_wp2_with fail
 refine DN.out.mono ?_;rintro e w4 ⟨lt',lo',ta,oa,ca',co',c,tx,rfl,kf4,ap4,rt4,hb4⟩;clear DN k0 k1 s0 s1 s2 s3 s4 s5 s6 s7 s8 s9;have RT:=hid rt4;have n7:No (.cells #[.slice ta lt'.length ca',.slice oa lo'.length co'] 27):=⟨⟩;have b4:Below w4 w4 (w4.alloc n7):=Be w4 _;have KA:=hid (kf4.below b4);have NB:=hid (Ah.new w4 n7);have D5:=hid (Af hb4 b4);clear kf4 ap4 rt4 hb4 b4;have SN:Hid (Calls prog 7 #[.agg n5,.agg n4] (w4.alloc n7) fun e w'=>aY (Cp (some ⟨g,0,none⟩) ca (some ⟨q,0,none⟩) co lt lo) s (w4.alloc n7) e w'):=hid ((KNs.out.below D5).spec (SAs.out.below D5));obtain⟨k0,k1⟩:=(CB.out.below D5).two;obtain⟨s0,s1,s2,s3,s4,s5,s6,s7,s8,s9⟩:=(SB.out.below D5).jE;go_wp2_with fail
 generalize w4.alloc n7=W5 at *;generalize w4.heap.size=Q at *;refine SN.out.mono ?_;rintro e w6 ⟨lt2,lo2,ta2,oa2,ca2,co2,c2,tx2,rfl,kf6,rt6,hb6⟩;obtain⟨ec,etx,_,_⟩:=Mr RT rt6;subst ec;subst etx;clear SN k0 k1 s0 s1 s2 s3 s4 s5 s6 s7 s8 s9;have RT2:=hid rt6;have n6:Na #[.slice ta2 lt2.length ca2,.slice oa2 lo2.length co2]:=⟨⟩;have b6:Below w6 w6 (w6.alloc (.cells n6 27)):=Be w6 _;have KM6:=hid (kf6.below b6);have MB:=hid (Ah.new w6 (.cells n6 27));have A7:=hid (KA.out.below (Af hb6 b6));have N7:=hid (NB.out.below (Af hb6 b6));have D7:=hid (Af D5 (Af hb6 b6));clear hb6 b6 KA NB D5 kf6 rt6;go_upto_region 6 with fail
 generalize w6.alloc (.cells n6 27)=U at *;generalize w6.heap.size=R at *;have BK:Hid (∀W,Below U U W->Ah W C (.cells n5 27)):=hid (fun W hW=>(CB.out.below D7).below hW);have n9:Na s:=⟨⟩;have BS:Hid (∀W,Below U U W->Ah W (C+1) (.cells n9 32)):=hid (fun W hW=>(SB.out.below D7).below hW);have BN:Hid (∀W,Below U U W->Ah W Q n7):=hid (fun W hW=>N7.out.below hW);have BM:Hid (∀W,Below U U W->Ah W R (.cells n6 27)):=hid (fun W hW=>MB.out.below hW);have KK:Hid (∀W,Below U U W->Kn w0 W lt lo (some ⟨g,0,none⟩) (some ⟨q,0,none⟩) ca co):=hid (fun W hW=>(KNs.out.below D7).below hW);have KS:Hid (∀W,Below U U W->By W w0 n10 n11 lt lo):=hid (fun W hW=>(KSs.out.below D7).below hW);have NN:Hid (∀W,Below U U W->Hg W W2 (.slice ta lt'.length ca') (.slice oa lo'.length co') lt' lo'):=hid (fun W hW=>A7.out.below hW);have MM:Hid (∀W,Below U U W->Hg W W5 (.slice ta2 lt2.length ca2) (.slice oa2 lo2.length co2) lt2 lo2):=hid (fun W hW=>KM6.out.below hW);have SA:Hid (∀W,Below U U W->s.at W):=hid (fun W hW=>(SAs.out.below D7).below hW);have LU:Hid (Below w0 w0 U):=hid (Af LB D7);have KF:=hid (KK.out _ (Below.refl _ _)).f;clear CB SB N7 MB KNs KSs A7 KM6 SAs D7 LB;have DU:Hid (Below U U U):=hid (Below.refl U U);have E11:Hid (∀args w,(callFunc 8 args).run prog w= .ok (.enter 8 args) w):=hid (enters_of func8 (by kernel_rfl) rfl);obtain⟨T,et⟩:∃T,T=Gd (Cp ta ca' oa co' lt' lo'):=⟨_,rfl⟩;have ET:=hid et;clear et;have NF:Hid (La lt' lo'∨(lt'=[]/\lo'=[])):=hid (by
  cases ok:okL lt lo with
  |true=>exact .inl (Mn (RT.out.ok2 ok))
  |false=>exact .inr (Lk RT ok))
 have MF:Hid (La lt2 lo2∨(lt2=[]/\lo2=[])):=hid (by
  cases ok:okL lt lo with
  |true=>exact .inl (Mn (RT2.out.ok2 ok))
  |false=>exact .inr (Lk RT2 ok))
 have n8:Na #[.slice ta lt'.length ca',.slice oa lo'.length co']:=⟨⟩;have XN:Hid (∀W,Below U U W->Calls prog 8 #[.agg n8] W fun e w'=>∃v,e= .returned v/\(v= .string T/\Below W W w')):=hid (fun W hW=>by
  rw[ET.out];exact(Iq (Cp ta ca' oa co' lt' lo') W (au (NN W hW) NF) (Ya NF)).mono fun _ _ ⟨e,h⟩=>⟨_,e,rfl,h⟩)
 have XM:Hid (∀W,Below U U W->Calls prog 8 #[.agg n6] W fun e w'=>∃v,e= .returned v/\(v= .string T/\Below W W w')):=hid (fun W hW=>by
  rw[ET.out,Q9 RT.out RT2.out (ta2:=ta2) (oa2:=oa2) (ca2:=ca2) (co2:=co2)];exact(Iq (Cp ta2 ca2 oa2 co2 lt2 lo2) W (au (MM W hW) MF) (Ya MF)).mono fun _ _ ⟨e,h⟩=>⟨_,e,rfl,h⟩)
 have DR:Hid (Below U U U.drew):=hid (Below.refl U U).drew;cases ok:okL lt lo with
 |false=>
  obtain⟨e1,e2⟩:=Tl RT ok;subst e1;have NL:=hid (Lk RT ok);clear ok;refine Am 19 (fun W=>Below U U W) (by kernel_rfl) ?_;refine tr 0 32 (.int .i64 1) DR ?_;refine tr 1 33 (.int .i64 1) DR ?_;refine tr 2 34 (.bool false) DR ?_;refine tr 3 35 (.bool false) DR ?_;refine tr 4 36 (.string tx2) DR ?_;refine tr 5 37 (.string tx2) DR ?_;refine tr 6 38 (.bool false) DR ?_;refine tr 7 39 (.bool false) DR ?_;refine tr 8 40 (.bool false) DR ?_;refine tr 9 41 (.agg n8) DR ?_ (hy:=fun W h=>by obtain⟨z0,z1⟩:=(BN W h).two;go_simp);refine tr 11 43 (.agg n6) DR ?_ (hy:=fun W h=>by obtain⟨z0,z1⟩:=(BM W h).two;go_simp);refine Ac (i:=10) (by kernel_rfl) rfl ?_;intro K hK;refine Ao (by rfl) 8 _ _ (by rfl) E11 _ (by rfl) (some 42) (by rfl) _ (XN _ DR) ?_;rintro v w7 ⟨rfl,hb⟩;have D1:=hid (Af DR hb);refine hK _ _ (fun _=>D1) ?_;clear hK K hb;simp only[ap,List.set];refine Ac (i:=12) (by kernel_rfl) rfl ?_;intro K hK;refine Ao (by rfl) 8 _ _ (by rfl) E11 _ (by rfl) (some 44) (by rfl) _ (XM _ D1) ?_;rintro v w7 ⟨rfl,hb⟩;have D2:=hid (Af D1 hb);refine hK _ _ (fun _=>D2) ?_;clear hK K hb;simp only[ap,List.set];refine tr 13 45 (.bool false) D2 ?_;refine tr 14 46 (.bool false) D2 ?_;refine tr 15 47 (.bool false) D2 ?_;refine tr 16 48 (.int .i64 1) D2 ?_;refine tr 17 49 (.bool true) D2 ?_;refine tr 18 50 (.bool true) D2 ?_;refine Ai (by kernel_rfl) ?_ _;obtain⟨k0,k1⟩:=(BN _ D2).two;rw[NL.out.1]at k0;go_wp2;go_ret;exact⟨rfl,Af LU D2⟩
 |true=>
 have n1:(c2==1)=false:=by simpa using Ua RT ok
 have OK:=hid ok;clear ok;refine Am 19 (fun W=>Below U U W) (by kernel_rfl) ?_;refine tr 0 32 (.int .i64 c2) DR ?_;refine tr 1 33 (.int .i64 c2) DR ?_;refine tr 2 34 (.bool false) DR ?_;refine tr 3 35 (.bool false) DR ?_;refine tr 4 36 (.string tx2) DR ?_;refine tr 5 37 (.string tx2) DR ?_;refine tr 6 38 (.bool false) DR ?_;refine tr 7 39 (.bool false) DR ?_;refine tr 8 40 (.bool false) DR ?_;refine tr 9 41 (.agg n8) DR ?_ (hy:=fun W h=>by obtain⟨z0,z1⟩:=(BN W h).two;go_simp);refine tr 11 43 (.agg n6) DR ?_ (hy:=fun W h=>by obtain⟨z0,z1⟩:=(BM W h).two;go_simp);refine Ac (i:=10) (by kernel_rfl) rfl ?_;intro K hK;refine Ao (by rfl) 8 _ _ (by rfl) E11 _ (by rfl) (some 42) (by rfl) _ (XN _ DR) ?_;rintro v w7 ⟨rfl,hb⟩;have D1:=hid (Af DR hb);refine hK _ _ (fun _=>D1) ?_;clear hK K hb;simp only[ap,List.set];refine Ac (i:=12) (by kernel_rfl) rfl ?_;intro K hK;refine Ao (by rfl) 8 _ _ (by rfl) E11 _ (by rfl) (some 44) (by rfl) _ (XM _ D1) ?_;rintro v w7 ⟨rfl,hb⟩;have D2:=hid (Af D1 hb);refine hK _ _ (fun _=>D2) ?_;clear hK K hb;simp only[ap,List.set];refine tr 13 45 (.bool false) D2 ?_;refine tr 14 46 (.bool false) D2 ?_;refine tr 15 47 (.bool false) D2 ?_;refine tr 16 48 (.int .i64 c2) D2 ?_;refine tr 17 49 (.bool false) D2 ?_;refine tr 18 50 (.bool false) D2 ?_;refine Ai (by kernel_rfl) ?_ _;clear n1;by_cases hc:c2=0;rotate_left
 ·have n2:(c2 != 0)=true:=by simpa using hc
  obtain⟨e1,e2⟩:=OH RT OK hc (ta1:=ta) (oa1:=oa) (ca1:=ca') (co1:=co');subst e2;have XK:Hid (∀W,Below U U W->Calls prog 8 #[.agg n5] W fun e w'=>∃v,e= .returned v/\(v= .string T/\Below W W w')):=hid (fun W hW=>by
   rw[ET.out,e1];exact(Iq (Cp (some ⟨g,0,none⟩) ca (some ⟨q,0,none⟩) co lt lo) W (KK W hW |>.st.at KF.out) KF.out.wf).mono fun _ _ ⟨e,h⟩=>⟨_,e,rfl,h⟩)
  have DX:=hid D2.out.drew;clear e1 hc;go_upto_region 9 with fail
  refine Am 9 (fun W=>Below U U W) (by kernel_rfl) ?_;refine tr 0 67 (.agg n8) DX ?_ (hy:=fun W h=>by obtain⟨z0,z1⟩:=(BN W h).two;go_simp);refine tr 2 69 (.agg n5) DX ?_ (hy:=fun W h=>by obtain⟨z0,z1⟩:=(BK W h).two;go_simp);refine Ac (i:=1) (by kernel_rfl) rfl ?_;intro K hK;refine Ao (by rfl) 8 _ _ (by rfl) E11 _ (by rfl) (some 68) (by rfl) _ (XN _ DX) ?_;rintro v w7 ⟨rfl,hb⟩;have G1:=hid (Af DX hb);refine hK _ _ (fun _=>G1) ?_;clear hK K hb;simp only[ap,List.set];refine Ac (i:=3) (by kernel_rfl) rfl ?_;intro K hK;refine Ao (by rfl) 8 _ _ (by rfl) E11 _ (by rfl) (some 70) (by rfl) _ (XK _ G1) ?_;rintro v w7 ⟨rfl,hb⟩;have G2:=hid (Af G1 hb);refine hK _ _ (fun _=>G2) ?_;clear hK K hb;simp only[ap,List.set];refine tr 4 71 (.bool true) G2 ?_;refine tr 5 72 (.bool true) G2 ?_;refine tr 6 73 (.string ⟨#[]⟩) G2 ?_;refine tr 7 74 (.bool true) G2 ?_;refine tr 8 75 (.bool true) G2 ?_;refine Ac (i:=9) (by kernel_rfl) rfl ?_;intro K hK;go_simp;refine hK _ _ (fun h=>absurd h (by decide)) ?_;clear hK K;try simp only[ap,List.set]
  refine Ai (by kernel_rfl) ?_ _;go_wp2;go_ret;exact⟨rfl,Af LU G2⟩
 subst hc;obtain⟨d1,d2,d3⟩:=Uq RT OK.out;have DX:=hid D2.out;have XK:Hid (∀W,Below U U W->Calls prog 9 #[.agg n8] W fun e w'=>e= .returned (.bool true)/\Below W W w'):=hid (fun W hW=>by
  have h:=Md (Cp ta ca' oa co' lt' lo') W ((NN W hW).at (Mn d1)) (Dm (NN W hW).o).1 (Mn d1).wf;rw[show Bd (Cp ta ca' oa co' lt' lo')=true from d1]at h;exact h)
 have XS:Hid (∀W,Below U U W->Calls prog 10 #[.agg n9] W fun e w'=>e= .returned (.bool true)/\Below W W w'):=hid (fun W hW=>by
  have sa:=SA.out W hW;have h:=Kw s.th s.kind s.id s.to s.cat s.data s.b1 s.c1.a s.c1.n s.c1.k s.c1.f s.c1.g s.b2 s.c2.a s.c2.n s.c2.k s.c2.f s.c2.g W sa.2.2 sa.1.1 sa.2.1.1 sa.1.2 sa.2.1.2;rw[show G5 s.th s.kind s.id s.to s.cat s.data s.b1 s.c1.n s.c1.f s.c1.g s.b2 s.c2.n s.c2.f s.c2.g=true from d3]at h;exact h)
 have LE:Hid (lt'.length=lt.length):=hid d2;clear d1 d2 d3;obtain⟨k0,k1⟩:=(BN _ DX).two;go_wp2_with fail
 refine(XK _ DX).mono ?_;rintro e w8 ⟨rfl,hb⟩;have DY:=hid (Af DX hb);clear hb k0 k1;obtain⟨k0,k1⟩:=(BN _ DY).two;obtain⟨z0,z1⟩:=(BK _ DY).two;obtain⟨s0,s1,s2,s3,s4,s5,s6,s7,s8,s9⟩:=(BS _ DY).jE;rw[LE.out]at k0;go_wp2_with fail
 refine(XS _ DY).mono ?_;rintro e w9 ⟨rfl,hb⟩;have DZ:=hid (Af DY hb);clear hb;go_wp2_with fail
 go_ret;exact⟨rfl,Af LU DZ⟩
end Go.Proofs.YtefoofaocbjdoaaGreatDoor
