import Derived.Test.YtmikapeeflcbfaaGreatDoorZ18
import Derived.Test.YtmikapeeflcbfaaGreatDoorZ0
import Derived.Test.YtmikapeeflcbfaaGreatDoorZ26
import Derived.Test.YtmikapeeflcbfaaGreatDoorDWS
import Derived.Test.YtmikapeeflcbfaaGreatDoorZ23
import Derived.Test.YtmikapeeflcbfaaGreatDoorZ1
import Derived.Orders
set_option maxRecDepth 100000
set_option maxHeartbeats 16000000
namespace Go.Proofs.YtmikapeeflcbfaaGreatDoor
open Go Go.RowKit Go.Deep Go.Maps Go.BigFrame Go.Shelf Go.Proofs.Tryz
theorem VN(v:Value)(W:World):(method 422 203 (.agg #[v]) "loop.example/g00272/impl.takes").run prog W= .ok (262,.agg #[v]) W:=by kernel_rfl
theorem UT(v:Value)(W:World):(nilAhead 422 203 (.agg #[v]) "loop.example/g00272/impl.takes").run prog W= .ok (some false) W:=by kernel_rfl
theorem Wc(v:Value)(W:World):(method 422 203 (.agg #[v]) "loop.example/g00272/impl.label").run prog W= .ok (160,.agg #[v]) W:=by kernel_rfl
theorem VO(v:Value)(W:World):(method 422 205 (.agg #[v]) "loop.example/g00272/impl.takes").run prog W= .ok (263,.agg #[v]) W:=by kernel_rfl
theorem Wi(v:Value)(W:World):(nilAhead 422 205 (.agg #[v]) "loop.example/g00272/impl.takes").run prog W= .ok (some false) W:=by kernel_rfl
theorem Vz(v:Value)(W:World):(method 422 205 (.agg #[v]) "loop.example/g00272/impl.label").run prog W= .ok (160,.agg #[v]) W:=by kernel_rfl
theorem WA(v:Value)(W:World):(method 422 207 (.agg #[v]) "loop.example/g00272/impl.takes").run prog W= .ok (264,.agg #[v]) W:=by kernel_rfl
theorem Wj(v:Value)(W:World):(nilAhead 422 207 (.agg #[v]) "loop.example/g00272/impl.takes").run prog W= .ok (some false) W:=by kernel_rfl
theorem Wp(v:Value)(W:World):(method 422 207 (.agg #[v]) "loop.example/g00272/impl.label").run prog W= .ok (160,.agg #[v]) W:=by kernel_rfl
theorem Ve(v:Value)(W:World):(method 422 209 (.agg #[v]) "loop.example/g00272/impl.takes").run prog W= .ok (265,.agg #[v]) W:=by kernel_rfl
theorem Vs(v:Value)(W:World):(nilAhead 422 209 (.agg #[v]) "loop.example/g00272/impl.takes").run prog W= .ok (some false) W:=by kernel_rfl
theorem VI(v:Value)(W:World):(method 422 209 (.agg #[v]) "loop.example/g00272/impl.label").run prog W= .ok (160,.agg #[v]) W:=by kernel_rfl
theorem JP{ops:Array Oper}{o:Oper}{a:Act}{w:World}{K:Act->World->Prop}{Q:Exit->Act->World->Prop}{E:Prop}(hw:Region.wanted o (yielded ops a.tmps)=true)(x:Operand)(nm:String)(ats:Array TypeId)
 (ho:o.op= .call {callee:= .invoke x nm,args:=#[],argTypes:=ats})(T:TypeId)(v r:Value)(f:Nat)(hv:a.eval x= .iface T v)(hm:∀W,(method 422 T v nm).run prog W= .ok (f,r) W)(eg:∀args w,(callFunc f args).run prog w= .ok (.enter f args) w)
 (d:Option Nat)(hd:o.dst=d)(R:Value->World->Prop)(hc:Calls prog f #[r] w fun e w'=>∃v,e= .returned v/\R v w')(h:∀v w',R v w'->K (a.put d v) w'):
 if Region.wanted o (yielded ops a.tmps)=true then Oper.wp prog o a w K Q else E:=by
 rw[if_pos hw];have e:(execOp a.eval o).run prog w= .ok (.enter f #[r]) w:=by
  unfold execOp;simp only[ho,resolve,invoke,callMethod,Sem.run_bind,List.map_toArray,List.map_nil,hv];simp[go_sem,hm,eg]
 unfold Oper.wp;rw[e,Oper.upon_enter];exact hc.mono fun e w' ⟨v,he,hr⟩=>by subst he;rw[hd];exact h v w' hr
theorem QI{ops:Array Oper}{o:Oper}{a:Act}{w:World}{K:Act->World->Prop}{Q:Exit->Act->World->Prop}{E:Prop}(hw:Region.wanted o (yielded ops a.tmps)=true)(x y:Operand)(nm:String)(ats:Array TypeId)
 (ho:o.op= .call {callee:= .invoke x nm,args:=#[y],argTypes:=ats})(T:TypeId)(v r:Value)(f:Nat)(hv:a.eval x= .iface T v)(hm:∀W,(method 422 T v nm).run prog W= .ok (f,r) W)(eg:∀args w,(callFunc f args).run prog w= .ok (.enter f args) w)(v1:Value)(hv1:a.eval y=v1)
 (d:Option Nat)(hd:o.dst=d)(R:Value->World->Prop)(hc:Calls prog f #[r,v1] w fun e w'=>∃v,e= .returned v/\R v w')(h:∀v w',R v w'->K (a.put d v) w'):
 if Region.wanted o (yielded ops a.tmps)=true then Oper.wp prog o a w K Q else E:=by
 rw[if_pos hw];have e:(execOp a.eval o).run prog w= .ok (.enter f #[r,v1]) w:=by
  unfold execOp;simp only[ho,resolve,invoke,callMethod,Sem.run_bind,List.map_toArray,List.map_cons,List.map_nil,hv,hv1];simp[go_sem,hm,eg]
 unfold Oper.wp;rw[e,Oper.upon_enter];exact hc.mono fun e w' ⟨v,he,hr⟩=>by subst he;rw[hd];exact h v w' hr
theorem TN{X:Ac}{s:Ak}{lt:List Ac}{lo:List Ab}{t:Nat}(hk:s.kind=6∨s.kind=7∨s.kind=8∨s.kind=9∨s.kind=10∨s.kind=13∨s.kind=15)(h:BH X lo s.id (Hf s.kind)=none):FI X s lt lo t 4 ⟨#[]⟩ lt lo:=by
 rcases hk with hk|hk|hk|hk|hk|hk|hk
 ·exact .k6 hk (.inl ⟨by rw[hk]at h;exact h,rfl,rfl,rfl,rfl⟩)
 ·exact .k7 hk (.inl ⟨by rw[hk]at h;exact h,rfl,rfl,rfl,rfl⟩)
 ·exact .k8 hk (.inl ⟨by rw[hk]at h;exact h,rfl,rfl,rfl,rfl⟩)
 ·exact .k9 hk (.inl ⟨by rw[hk]at h;exact h,rfl,rfl,rfl,rfl⟩)
 ·exact .k10 hk (.inl ⟨by rw[hk]at h;exact h,rfl,rfl,rfl,rfl⟩)
 ·exact .k13 hk (.inl ⟨by rw[hk]at h;exact h,rfl,rfl,rfl,rfl⟩)
 ·exact .k15 hk (.inl ⟨by rw[hk]at h;exact h,rfl,rfl,rfl,rfl⟩)
theorem ZS{X:Ac}{s:Ak}{lt:List Ac}{lo:List Ab}{t u:Nat}(hk:s.kind=6∨s.kind=9∨s.kind=10)(h:BH X lo s.id (Hf s.kind)=some u)(hc:Ap X (Aa lo u).b1 (Aa lo u).c1=false):FI X s lt lo t 4 ⟨#[]⟩ lt lo:=by
 rcases hk with hk|hk|hk
 ·exact .k6 hk (.inr ⟨u,by rw[hk]at h;exact h,.inl ⟨hc,rfl,rfl,rfl,rfl⟩⟩)
 ·exact .k9 hk (.inr ⟨u,by rw[hk]at h;exact h,.inl ⟨hc,rfl,rfl,rfl,rfl⟩⟩)
 ·exact .k10 hk (.inr ⟨u,by rw[hk]at h;exact h,.inl ⟨hc,rfl,rfl,rfl,rfl⟩⟩)
def Kd(s:Ak)(kd:Int)(T f:Nat)(tk:Bool):Prop:=
 (kd=1/\T=203/\f=262/\tk=(s.kind==6||s.kind==7||s.kind==8))∨(kd=2/\T=205/\f=263/\tk=(s.kind==9||s.kind==10))∨(kd=3/\T=207/\f=264/\tk=(s.kind==15))∨(kd=4/\T=209/\f=265/\tk=(s.kind==13))
theorem aP{s:Ak}{o:Ab}(h:Ml o):∃T f tk,DJ o.kind=T/\Kd s o.kind T f tk:=by
 have hk:=h.kind;unfold Ha at hk;by_cases h1:o.kind=1
 ·exact⟨_,_,_,by rw[h1];rfl,.inl ⟨h1,rfl,rfl,rfl⟩⟩
 ·by_cases h2:o.kind=2
  ·exact⟨_,_,_,by rw[h2];rfl,.inr (.inl ⟨h2,rfl,rfl,rfl⟩)⟩
  ·by_cases h3:o.kind=3
   ·exact⟨_,_,_,by rw[h3];rfl,.inr (.inr (.inl ⟨h3,rfl,rfl,rfl⟩))⟩
   ·by_cases h4:o.kind=4
    ·exact⟨_,_,_,by rw[h4];rfl,.inr (.inr (.inr ⟨h4,rfl,rfl,rfl⟩))⟩
    ·rw[if_neg h1,if_neg h2,if_neg h3,if_neg h4]at hk;cases hk
theorem Kd.meth{s:Ak}{kd:Int}{T f:Nat}{tk:Bool}(h:Kd s kd T f tk)(v:Value):(∀W,(method 422 T (.agg #[v]) "loop.example/g00272/impl.takes").run prog W= .ok (f,.agg #[v]) W)/\(∀W,(method 422 T (.agg #[v]) "loop.example/g00272/impl.label").run prog W= .ok (160,.agg #[v]) W)/\(∀args w,(callFunc f args).run prog w= .ok (.enter f args) w)/\(∀W,Calls prog f #[.agg #[v],s.kind] W fun e w'=>∃r,e= .returned r/\(r= .bool tk/\Below W W w'))/\(∀W,(nilAhead 422 T (.agg #[v]) "loop.example/g00272/impl.takes").run prog W= .ok (some false) W):=by
 rcases h with⟨_,rfl,rfl,rfl⟩|⟨_,rfl,rfl,rfl⟩|⟨_,rfl,rfl,rfl⟩|⟨_,rfl,rfl,rfl⟩
 ·exact⟨VN v,Wc v,enters_of func262 (by kernel_rfl) rfl,fun W=>(J5 v s.kind W).mono fun _ _ h=>⟨_,h.1,rfl,h.2⟩,UT v⟩
 ·exact⟨VO v,Vz v,enters_of func263 (by kernel_rfl) rfl,fun W=>(LR v s.kind W).mono fun _ _ h=>⟨_,h.1,rfl,h.2⟩,Wi v⟩
 ·exact⟨WA v,Wp v,enters_of func264 (by kernel_rfl) rfl,fun W=>(Ox v s.kind W).mono fun _ _ h=>⟨_,h.1,rfl,h.2⟩,Wj v⟩
 ·exact⟨Ve v,VI v,enters_of func265 (by kernel_rfl) rfl,fun W=>(Ms v s.kind W).mono fun _ _ h=>⟨_,h.1,rfl,h.2⟩,Vs v⟩
theorem Kd.no{s:Ak}{kd:Int}{T f:Nat}(h:Kd s kd T f false)(hk:s.kind=6∨s.kind=7∨s.kind=8∨s.kind=9∨s.kind=10∨s.kind=13∨s.kind=15):kd≠Hf s.kind:=by
 unfold Kd at h;rcases hk with hk|hk|hk|hk|hk|hk|hk<;>rw[hk]at h ⊢ <;>rcases h with⟨rfl,_,_,h⟩|⟨rfl,_,_,h⟩|⟨rfl,_,_,h⟩|⟨rfl,_,_,h⟩<;>revert h<;>decide
theorem Kd.yes{s:Ak}{kd:Int}{T f:Nat}(h:Kd s kd T f true)(hk:s.kind=6∨s.kind=7∨s.kind=8∨s.kind=9∨s.kind=10∨s.kind=13∨s.kind=15):kd=Hf s.kind:=by
 unfold Kd at h;rcases hk with hk|hk|hk|hk|hk|hk|hk<;>rw[hk]at h ⊢ <;>rcases h with⟨rfl,_,_,h⟩|⟨rfl,_,_,h⟩|⟨rfl,_,_,h⟩|⟨rfl,_,_,h⟩<;>revert h<;>decide
section
variable {E:Nat->Addr}{w:World}{B P:Nat}{s:Ak}{g ca q co:Nat}{lt:List Ac}{lo:List Ab}{t c C:Nat}{nb:Nat->Nat}{kv:Nat->Value}{K:Nat->List Int}{X:Ac}
theorem Yt(v:Env E w B P s g ca q co lt lo t c C nb kv K X)(hk:s.kind=6∨s.kind=7∨s.kind=8∨s.kind=9∨s.kind=10∨s.kind=13∨s.kind=15):
 Calls prog 115 #[.pointer (some ⟨P,0,none⟩)] w fun e w'=>∃tx r,e= .returned (.tuple #[.string tx,r])/\Jc E B P s lt lo t X (.map (some c)) w w' tx r:=by
 have VV:=hid v;obtain⟨⟨k0,k1,k2,k3,k4,k5,k6,k7,k8,k9⟩,k10,k11,k12,k13⟩:=v.h.wk.work;have TH:=hid (Ic w B P s g ca q co lt lo t c C lo.length _ nb kv K v.h v.n (Nat.le_refl _) (Cu v.ok) s.id (bN (Gl v.so)));have HK:=hid hk;clear v hk;go_enter func115,ntmps115
 go_wp2_with fail
 refine TH.out.mono ?_;rintro e w1 ⟨hr,b1⟩;have A1:=hid b1;clear TH b1 k0 k1 k2 k3 k4 k5 k6 k7 k8 k9 k10 k11 k12 k13;rcases hr with⟨hf,rfl⟩|⟨u,hf,rfl⟩
 ·have AN:Hid (FI X s lt lo t 4 ⟨#[]⟩ lt lo):=hid (TN HK (by unfold BH;rw[show Gw lo s.id=none from hf]));clear hf;have D0:=hid (Below.refl w1 w1).drew;have A2:=hid (Ae A1 D0);go_upto_region 2 with fail
  refine Am 16 (fun W=>Below w1 w1 W) (by kernel_rfl) ?_;refine tq 0 17 (.nilIface) D0 ?_;simp only[ap,List.set];refine tq 1 18 (.bool true) D0 ?_;simp only[ap,List.set];refine tq 2 19 (.bool true) D0 ?_;simp only[ap,List.set];refine Nu 11 [(3,20),(4,21),(5,22),(6,23),(7,24),(8,25),(9,26),(10,27),(11,28),(12,29),(13,30)] rfl (by kernel_rfl) D0 ?_;simp only[Eb,ap,List.set];refine tq 14 31 (.bool true) D0 ?_;simp only[ap,List.set];refine tq 15 16 (.bool true) D0 ?_;simp only[ap,List.set];refine Aj (by kernel_rfl) ?_ _;have e9:=((VV.out.below A2).e 6 (by omega) (by omega)).1;have sz:=(VV.out.below A2).hB;go_wp2_with fail
  refine(Bi 290 (.pointer (some (E 6))) _).mono ?_;rintro e w9 ⟨rfl,rfl⟩;go_wp2;go_ret2;have b3:=Ae A2 ((Below.refl _ _).alloc (Nat.le_refl _) (.cells #[.int .i64 4,.iface 290 (.pointer (some (E 6)))] 68));exact⟨_,_,rfl,.no (.of (VV.out.below b3).h.wk) (b3.mono VV.out.hB) (BJ _ E sz 4 (by decide) 6 (by decide) (by decide) (by decide) (by first|rfl|simp)) (by decide) (AN)⟩
 ·obtain⟨ul,_⟩:=AE hf;have HF:Hid (Gw lo s.id=some u):=hid hf;obtain⟨T,f,tk,et,HKd⟩:=aP (s:=s) (VV.out.obj ul);rw[et];have KD:=hid HKd;obtain⟨MT,ML,EN,TK,NA⟩:=HKd.meth (.pointer (some ⟨q,u*10,none⟩));have HNA:=hid NA;have HMT:=hid MT;have HML:=hid ML;have HEN:=hid EN;have HTK:=hid TK;clear hf et HKd MT ML EN TK NA;have EL:Hid (∀args w,(callFunc 160 args).run prog w= .ok (.enter 160 args) w):=hid (enters_of func160 (by kernel_rfl) rfl);have ES:Hid (∀args w,(callFunc 147 args).run prog w= .ok (.enter 147 args) w):=hid (enters_of func147 (by kernel_rfl) rfl);have EC:Hid (∀args w,(callFunc 139 args).run prog w= .ok (.enter 139 args) w):=hid (enters_of func139 (by kernel_rfl) rfl);have EW:Hid (∀args w,(callFunc 148 args).run prog w= .ok (.enter 148 args) w):=hid (enters_of func148 (by kernel_rfl) rfl);have BX:Hid (∀W,Below w1 w1 W->Ah W P (.cells (Hg s g lt.length ca q lo.length co t (.map (some c))) 102)/\Dz W g (t*7) X):=hid (fun W hW=>by
   have V:=VV.out.below (Ae A1 hW);have C:=(V.h.st.jJ V.ht).1;rw[<-V.hX]at C;exact⟨V.h.wk,C⟩)
  have n1:Na #[.pointer (some ⟨q,u*10,none⟩)]:=⟨⟩;have PL:Hid (∀W,Below w1 w1 W->Calls prog 160 #[.agg n1] W fun e w'=>∃v,e= .returned v/\(v= .agg #[.int .i64 (Aa lo u).b1,.slice (Aa lo u).c1.a (Aa lo u).c1.n (Aa lo u).c1.k]/\Below W W w')):=hid (fun W hW=>by
   have V:=VV.out.below (Ae A1 hW);obtain⟨CO,ql⟩:=V.h.st.jF ul (Cu V.ok);rw[<-AM ul]at CO;exact(KG q (u*10) (Aa lo u).b1 (Aa lo u).c1 W ql CO.c3 CO.c4).mono fun _ _ h=>⟨_,h.1,rfl,h.2⟩)
  have D0:=hid (Below.refl w1 w1).drew;go_upto_region 2 with fail
  refine Am 16 (fun W=>Below w1 w1 W) (by kernel_rfl) ?_;refine tq 0 17 (.iface T (.agg n1)) D0 ?_;simp only[ap,List.set];refine tq 1 18 (.bool false) D0 ?_;simp only[ap,List.set];refine tq 2 19 (.bool false) D0 ?_;simp only[ap,List.set];refine tq 3 20 (.iface T (.agg n1)) D0 ?_;simp only[ap,List.set];have n2:Nv (.pointer (some ⟨P,0,none⟩)):=⟨⟩;refine tq 4 21 n2 D0 ?_;simp only[ap,List.set];refine tq 5 22 n2 D0 ?_;simp only[ap,List.set];refine tq 6 23 n2 D0 ?_;simp only[ap,List.set];have n6:Nv (.pointer (some ⟨P,1,none⟩)):=⟨⟩;refine tq 7 24 n6 D0 ?_;simp only[ap,List.set];refine tq 8 25 (.int .i64 s.kind) D0 ?_ (hy:=fun W h=>by obtain⟨⟨k0,k1,k2,k3,k4,k5,k6,k7,k8,k9⟩,k10,k11,k12,k13⟩:=(BX W h).1.work;go_simp);simp only[ap,List.set];refine tq 9 26 (.func (.method "loop.example/g00272/impl.takes") #[(.iface T (.agg n1))] #[]) D0 ?_;simp only[ap,List.set];refine tq 10 27 (.func (.method "loop.example/g00272/impl.takes") #[(.iface T (.agg n1))] #[]) D0 ?_ (hy:=fun W h=>by have y:=HNA.out W;go_simp);simp only[ap,List.set];refine tq 11 28 (.iface T (.agg n1)) D0 ?_;simp only[ap,List.set];refine Af (i:=12) (by kernel_rfl) rfl ?_;intro K hK;refine QI (by rfl) _ _ _ _ (by rfl) T _ _ f (by rfl) HMT HEN _ (by rfl) (some 29) (by rfl) _ (HTK _) ?_;rintro v w2 ⟨rfl,b2⟩;have V1:=hid (Ae D0 b2);refine hK _ _ (fun _=>V1) ?_;clear hK K b2;simp only[ap,List.set];refine tq 13 30 (.bool (!tk)) V1 ?_;simp only[ap,List.set];refine tq 14 31 (.bool (!tk)) V1 ?_;simp only[ap,List.set];refine tq 15 16 (.bool (!tk)) V1 ?_;simp only[ap,List.set];refine Aj (by kernel_rfl) ?_ _;have A2:=hid (Ae A1 V1);cases tk with
  |false=>
   have AN:Hid (FI X s lt lo t 4 ⟨#[]⟩ lt lo):=hid (TN HK (by unfold BH;rw[HF.out];simp only;rw[if_neg (by simp[KD.out.no HK.out])]));have e9:=((VV.out.below A2).e 6 (by omega) (by omega)).1;have sz:=(VV.out.below A2).hB;go_wp2_with fail
   refine(Bi 290 (.pointer (some (E 6))) _).mono ?_;rintro e w9 ⟨rfl,rfl⟩;go_wp2;go_ret2;have b3:=Ae A2 ((Below.refl _ _).alloc (Nat.le_refl _) (.cells #[.int .i64 4,.iface 290 (.pointer (some (E 6)))] 68));exact⟨_,_,rfl,.no (.of (VV.out.below b3).h.wk) (b3.mono VV.out.hB) (BJ _ E sz 4 (by decide) 6 (by decide) (by decide) (by decide) (by first|rfl|simp)) (by decide) (AN)⟩
  |true=>
   have HW:=hid (KD.out.yes HK);go_upto_region 4 with fail
   have D1:=hid V1.out.drew;refine Am 11 (fun W=>Below w1 w1 W) (by kernel_rfl) ?_;refine tq 0 35 n2 D1 ?_;simp only[ap,List.set];refine tq 1 36 n2 D1 ?_;simp only[ap,List.set];have n5:Nv (.pointer (some ⟨P,12,none⟩)):=⟨⟩;refine tq 2 37 n5 D1 ?_;simp only[ap,List.set];have n4:Nv (.pointer (some ⟨g,t*7,none⟩)):=⟨⟩;refine tq 3 38 n4 D1 ?_ (hy:=fun W h=>by obtain⟨⟨k0,k1,k2,k3,k4,k5,k6,k7,k8,k9⟩,k10,k11,k12,k13⟩:=(BX W h).1.work;go_simp);simp only[ap,List.set];refine tq 4 39 n4 D1 ?_;simp only[ap,List.set];have n3:Nv (.agg #[X.id,X.b1,.slice X.c1.a X.c1.n X.c1.k,X.b2,.slice X.c2.a X.c2.n X.c2.k,.slice X.own.a X.own.n X.own.k,X.made]):=⟨⟩;refine tq 5 40 n3 D1 ?_ (hy:=fun W h=>by have C:=(BX W h).2;have y0:=C.c0;have y1:=C.c1;have y2:W.cell? ⟨g,t*7+2,none⟩=some (.slice X.c1.a X.c1.n X.c1.k):=C.c2;have y3:=C.c3;have y4:W.cell? ⟨g,t*7+4,none⟩=some (.slice X.c2.a X.c2.n X.c2.k):=C.c4;have y5:W.cell? ⟨g,t*7+5,none⟩=some (.slice X.own.a X.own.n X.own.k):=C.c5;have y6:=C.c6;go_simp);simp only[ap,List.set];refine tq 6 41 (.iface T (.agg n1)) D1 ?_;simp only[ap,List.set];refine Af (i:=7) (by kernel_rfl) rfl ?_;intro K hK;refine JP (by rfl) _ _ _ (by rfl) T _ _ _ (by rfl) HML EL (some 42) (by rfl) _ (PL _ D1) ?_;rintro v w3 ⟨rfl,b3⟩;have V2:=hid (Ae D1 b3);refine hK _ _ (fun _=>V2) ?_;clear hK K b3;simp only[ap,List.set];have PS:=hid (Dm (VV.out.sees u ul _ (Ae A1 V2)));refine Af (i:=8) (by kernel_rfl) rfl ?_;intro K hK;refine Bb (by rfl) 147 _ _ _ (by rfl) ES _ _ (by rfl) (by rfl) (some 43) (by rfl) _ PS ?_;rintro v w4 ⟨rfl,b4⟩;have V3:=hid (Ae V2 b4);refine hK _ _ (fun _=>V3) ?_;clear hK K b4 PS;simp only[ap,List.set];refine tq 9 44 (.bool (!GI X (Aa lo u).b1 (Aa lo u).c1)) V3 ?_;simp only[ap,List.set];refine tq 10 34 (.bool (!GI X (Aa lo u).b1 (Aa lo u).c1)) V3 ?_;simp only[ap,List.set];refine Aj (by kernel_rfl) ?_ _;have A3:=hid (Ae A1 V3);cases hs:GI X (Aa lo u).b1 (Aa lo u).c1 with
   |false=>
    have AN:Hid (FI X s lt lo t 4 ⟨#[]⟩ lt lo):=hid (TN HK (by unfold BH;rw[HF.out];simp only;rw[if_neg (by simp[hs])]));clear hs;have e9:=((VV.out.below A3).e 11 (by omega) (by omega)).1;have sz:=(VV.out.below A3).hB;go_wp2_with fail
    refine(Bi 290 (.pointer (some (E 11))) _).mono ?_;rintro e w9 ⟨rfl,rfl⟩;go_wp2;go_ret2;have b3:=Ae A3 ((Below.refl _ _).alloc (Nat.le_refl _) (.cells #[.int .i64 4,.iface 290 (.pointer (some (E 11)))] 68));exact⟨_,_,rfl,.no (.of (VV.out.below b3).h.wk) (b3.mono VV.out.hB) (BJ _ E sz 4 (by decide) 11 (by decide) (by decide) (by decide) (by first|rfl|simp)) (by decide) (AN)⟩
   |true=>
    have HU:Hid (BH X lo s.id (Hf s.kind)=some u):=hid (by unfold BH;rw[HF.out];simp only;rw[if_pos (by simp[hs,HW.out])]);clear hs;have V2:=V3;clear V1;go_upto_region 6 with fail
    have D2:=hid V2.out.drew;have PW:Hid (Calls prog 148 #[s.kind] w4.drew fun e w'=>∃v,e= .returned v/\(v= .bool (s.kind==6||s.kind==9||s.kind==10)/\Below w4.drew.heap.size w4.drew w')):=hid ((Ug s.kind w4.drew).mono fun _ _ h=>⟨_,h.1,rfl,h.2⟩);refine Am 19 (fun W=>Below w1 w1 W) (by kernel_rfl) ?_;refine tq 0 48 n2 D2 ?_;simp only[ap,List.set];refine tq 1 49 n2 D2 ?_;simp only[ap,List.set];refine tq 2 50 n2 D2 ?_;simp only[ap,List.set];refine tq 3 51 n6 D2 ?_;simp only[ap,List.set];refine tq 4 52 (.int .i64 s.kind) D2 ?_ (hy:=fun W h=>by obtain⟨⟨k0,k1,k2,k3,k4,k5,k6,k7,k8,k9⟩,k10,k11,k12,k13⟩:=(BX W h).1.work;go_simp);simp only[ap,List.set];refine Af (i:=5) (by kernel_rfl) rfl ?_;intro K hK;refine Az (by rfl) 148 _ _ (by rfl) EW _ (by rfl) (some 53) (by rfl) _ PW ?_;rintro v w5 ⟨rfl,b5⟩;have V3:=hid (Ae D2 b5);refine hK _ _ (fun _=>V3) ?_;clear hK K b5 PW;simp only[ap,List.set];refine tq 6 54 (.bool (s.kind==6||s.kind==9||s.kind==10)) V3 ?_;simp only[ap,List.set];cases hw:(s.kind==6||s.kind==9||s.kind==10)with
    |false=>
     refine Nu 10 [(7,55),(8,56),(9,57),(10,58),(11,59),(12,60),(13,61),(14,62),(15,63),(16,64)] rfl (by kernel_rfl) V3 ?_;simp only[Eb,ap,List.set];refine tq 17 65 (.bool false) V3 ?_;simp only[ap,List.set];refine tq 18 47 (.bool false) V3 ?_;simp only[ap,List.set];refine Aj (by kernel_rfl) ?_ _;have A4:=hid (Ae A1 V3);have NW:=hid hw;clear hw;rcases KD with⟨_,rfl,rfl,hq⟩|⟨_,rfl,rfl,hq⟩|⟨_,rfl,rfl,hq⟩|⟨_,rfl,rfl,hq⟩
     ·have HQ0:s.kind=7∨s.kind=8:=by
       have nw:=NW.out;have hq':(s.kind=6∨s.kind=7)∨s.kind=8:=(by simpa[Bool.or_eq_true]using hq.symm);rcases hq' with(h|h)|h
       ·exfalso;rw[h]at nw;revert nw;decide
       ·exact .inl h
       ·exact .inr h
      have HQ:=hid HQ0;clear hq HQ0;have eW:Hf s.kind=1:=(by(rcases HQ with h|h<;>rw[h]<;>decide));have HU2:Hid (BH X lo s.id 1=some u):=hid (by rw[<-eW];exact HU.out);clear eW;have a0:=PY 197 (.agg n1) w5;have A5:=hid (Ae A4 ((Below.refl _ w5).alloc (Nat.le_refl _) (.cells n1 203)));have CC:=hid (aU (VV.out.below A5) HU2 (.inr HQ));go_wp2_with fail
      refine CC.out.mono ?_;rintro e w9 ⟨tx,r,rfl,rp⟩;have RP:=hid (rp.from (A5.out.mono VV.out.hB));clear rp;go_wp2;go_ret2;exact⟨_,_,rfl,RP⟩
     ·exfalso;have nw:=NW.out;have hq':s.kind=9∨s.kind=10:=(by simpa[Bool.or_eq_true]using hq.symm);rcases hq' with h|h<;>rw[h]at nw<;>revert nw<;>decide
     ·have HQ0:s.kind=15:=by
       simpa using hq.symm
      have HQ:=hid HQ0;clear hq HQ0;have eW:Hf s.kind=3:=(by(rw[HQ.out];decide));have HU2:Hid (BH X lo s.id 3=some u):=hid (by rw[<-eW];exact HU.out);clear eW;have a0:=Qk 197 207 (.agg n1) w5 (by decide);have a1:=WS 197 207 (.agg n1) w5 (by decide);have a2:=UC 197 (.agg n1) w5;have A5:=hid (Ae A4 ((Below.refl _ w5).alloc (Nat.le_refl _) (.cells n1 207)));have CC:=hid (cf (VV.out.below A5) HU2 HQ);go_wp2_with fail
      refine CC.out.mono ?_;rintro e w9 ⟨tx,rfl,rp⟩;have RP:=hid (rp.from (A5.out.mono VV.out.hB));clear rp;go_wp2;go_ret2;exact⟨_,_,rfl,RP⟩
     ·have HQ0:s.kind=13:=by
       simpa using hq.symm
      have HQ:=hid HQ0;clear hq HQ0;have eW:Hf s.kind=4:=(by(rw[HQ.out];decide));have HU2:Hid (BH X lo s.id 4=some u):=hid (by rw[<-eW];exact HU.out);clear eW;have a0:=Qk 197 209 (.agg n1) w5 (by decide);have a1:=WS 197 209 (.agg n1) w5 (by decide);have a2:=XO 197 209 (.agg n1) w5 (by decide);have a3:=Yl 197 (.agg n1) w5;have A5:=hid (Ae A4 ((Below.refl _ w5).alloc (Nat.le_refl _) (.cells n1 209)));have CC:=hid (cn (VV.out.below A5) HU2 HQ);go_wp2_with fail
      refine CC.out.mono ?_;rintro e w9 ⟨r,rfl,rp⟩;have RP:=hid (rp.from (A5.out.mono VV.out.hB));clear rp;go_wp2;go_ret2;exact⟨_,_,rfl,RP⟩
    |true=>
     refine tq 7 55 n2 V3 ?_;simp only[ap,List.set];refine tq 8 56 n2 V3 ?_;simp only[ap,List.set];refine tq 9 57 n5 V3 ?_;simp only[ap,List.set];refine tq 10 58 n4 V3 ?_ (hy:=fun W h=>by obtain⟨⟨k0,k1,k2,k3,k4,k5,k6,k7,k8,k9⟩,k10,k11,k12,k13⟩:=(BX W h).1.work;go_simp);simp only[ap,List.set];refine tq 11 59 n4 V3 ?_;simp only[ap,List.set];refine tq 12 60 n3 V3 ?_ (hy:=fun W h=>by have C:=(BX W h).2;have y0:=C.c0;have y1:=C.c1;have y2:W.cell? ⟨g,t*7+2,none⟩=some (.slice X.c1.a X.c1.n X.c1.k):=C.c2;have y3:=C.c3;have y4:W.cell? ⟨g,t*7+4,none⟩=some (.slice X.c2.a X.c2.n X.c2.k):=C.c4;have y5:W.cell? ⟨g,t*7+5,none⟩=some (.slice X.own.a X.own.n X.own.k):=C.c5;have y6:=C.c6;go_simp);simp only[ap,List.set];refine tq 13 61 (.iface T (.agg n1)) V3 ?_;simp only[ap,List.set];refine Af (i:=14) (by kernel_rfl) rfl ?_;intro K hK;refine JP (by rfl) _ _ _ (by rfl) T _ _ _ (by rfl) HML EL (some 62) (by rfl) _ (PL _ V3) ?_;rintro v w6 ⟨rfl,b6⟩;have V4:=hid (Ae V3 b6);refine hK _ _ (fun _=>V4) ?_;clear hK K b6;simp only[ap,List.set];have PS:=hid (Dm (VV.out.changes u ul _ (Ae A1 V4)));refine Af (i:=15) (by kernel_rfl) rfl ?_;intro K hK;refine Bb (by rfl) 139 _ _ _ (by rfl) EC _ _ (by rfl) (by rfl) (some 63) (by rfl) _ PS ?_;rintro v w7 ⟨rfl,b7⟩;have V5:=hid (Ae V4 b7);refine hK _ _ (fun _=>V5) ?_;clear hK K b7 PS;simp only[ap,List.set];refine tq 16 64 (.bool (!Ap X (Aa lo u).b1 (Aa lo u).c1)) V5 ?_;simp only[ap,List.set];refine tq 17 65 (.bool (!Ap X (Aa lo u).b1 (Aa lo u).c1)) V5 ?_;simp only[ap,List.set];refine tq 18 47 (.bool (!Ap X (Aa lo u).b1 (Aa lo u).c1)) V5 ?_;simp only[ap,List.set];refine Aj (by kernel_rfl) ?_ _;have A4:=hid (Ae A1 V5);have KW:Hid (s.kind=6∨s.kind=9∨s.kind=10):=hid (by simpa[Bool.or_eq_true,or_assoc]using hw);clear hw;cases hc:Ap X (Aa lo u).b1 (Aa lo u).c1 with
     |false=>
      have AN:Hid (FI X s lt lo t 4 ⟨#[]⟩ lt lo):=hid (ZS KW HU hc);clear hc;have e9:=((VV.out.below A4).e 8 (by omega) (by omega)).1;have sz:=(VV.out.below A4).hB;go_wp2_with fail
      refine(Bi 290 (.pointer (some (E 8))) _).mono ?_;rintro e w9 ⟨rfl,rfl⟩;go_wp2;go_ret2;have b3:=Ae A4 ((Below.refl _ _).alloc (Nat.le_refl _) (.cells #[.int .i64 4,.iface 290 (.pointer (some (E 8)))] 68));exact⟨_,_,rfl,.no (.of (VV.out.below b3).h.wk) (b3.mono VV.out.hB) (BJ _ E sz 4 (by decide) 8 (by decide) (by decide) (by decide) (by first|rfl|simp)) (by decide) (AN)⟩
     |true=>
      have HC:=hid hc;clear hc;rcases KD with⟨_,rfl,rfl,hq⟩|⟨_,rfl,rfl,hq⟩|⟨_,rfl,rfl,hq⟩|⟨_,rfl,rfl,hq⟩
      ·have HQ0:s.kind=6:=by
        rcases KW with h|h|h<;>first|exact h|exact .inl h|exact .inr h|(exfalso;rw[h]at hq;revert hq;decide)
       have HQ:=hid HQ0;clear hq HQ0;have eW:Hf s.kind=1:=(by(rw[HQ.out];decide));have HU2:Hid (BH X lo s.id 1=some u):=hid (by rw[<-eW];exact HU.out);clear eW;have a0:=PY 197 (.agg n1) w7;have A5:=hid (Ae A4 ((Below.refl _ w7).alloc (Nat.le_refl _) (.cells n1 203)));have CC:=hid (aU (VV.out.below A5) HU2 (.inl ⟨HQ,HC⟩));go_wp2_with fail
       refine CC.out.mono ?_;rintro e w9 ⟨tx,r,rfl,rp⟩;have RP:=hid (rp.from (A5.out.mono VV.out.hB));clear rp;go_wp2;go_ret2;exact⟨_,_,rfl,RP⟩
      ·have HQ0:s.kind=9∨s.kind=10:=by
        rcases KW with h|h|h<;>first|exact h|exact .inl h|exact .inr h|(exfalso;rw[h]at hq;revert hq;decide)
       have HQ:=hid HQ0;clear hq HQ0;have eW:Hf s.kind=2:=(by(rcases HQ with h|h<;>rw[h]<;>decide));have HU2:Hid (BH X lo s.id 2=some u):=hid (by rw[<-eW];exact HU.out);clear eW;have a0:=Qk 197 205 (.agg n1) w7 (by decide);have a1:=YW 197 (.agg n1) w7;have A5:=hid (Ae A4 ((Below.refl _ w7).alloc (Nat.le_refl _) (.cells n1 205)));have CC:=hid (bX (VV.out.below A5) HU2 HC HQ);go_wp2_with fail
       refine CC.out.mono ?_;rintro e w9 ⟨tx,r,rfl,rp⟩;have RP:=hid (rp.from (A5.out.mono VV.out.hB));clear rp;go_wp2;go_ret2;exact⟨_,_,rfl,RP⟩
      ·exfalso;rcases KW with h|h|h<;>rw[h]at hq<;>revert hq<;>decide
      ·exfalso;rcases KW with h|h|h<;>rw[h]at hq<;>revert hq<;>decide
end
section
variable {E:Nat->Addr}{w W:World}{B P:Nat}{s:Ak}{g ca q co:Nat}{lt:List Ac}{lo:List Ab}{t c C:Nat}{nb:Nat->Nat}{kv:Nat->Value}{K:Nat->List Int}{X:Ac}
theorem Oc.no{m:Value}{w':World}{tx:ByteArray}{r:Value}{c:Int}(kp:KP w' P)(hb:Below B w w')(ht:Told w' B E r c)(hc:c≠0)(ha:FI X s lt lo t c ⟨#[]⟩ lt lo):Oc E B P s lt lo t X m w w' tx r:=⟨hb,.inl ⟨kp,c,ht,hc,ha⟩⟩
theorem Oc.yes{m:Value}{w':World}{tx:ByteArray}{lt':List Ac}{lo':List Ab}{g' ca' q' co':Nat}(hb:Below B w w')(hs:Mf w' B P s g' ca' q' co' lt' lo' t m)(ha:FI X s lt lo t 0 tx lt' lo'):Oc E B P s lt lo t X m w w' tx .nilIface:=⟨hb,.inr ⟨rfl,_,_,_,_,_,_,_,hs,Ih.refl _,ha⟩⟩
theorem Env.sameT(v:Env E w B P s g ca q co lt lo t c C nb kv K X):lt.set t X=lt:=by rw[v.hX,Ek]
theorem cm(v:Env E w B P s g ca q co lt lo t c C nb kv K X)(h18:18<=B)(hk:s.kind=1):
 Calls prog 110 #[.pointer (some ⟨P,0,none⟩)] w fun e w'=>∃tx r,e= .returned (.tuple #[.string tx,r])/\Oc E B P s lt lo t X (.map (some c)) w w' tx r:=by
 have i:=v.thr.id;have m:=v.thr.made;have o:=IX v.thr.own;by_cases hf:X.made=30∨X.own.n=10
 ·refine(Qv E w B P s g ca q co lt lo t _ v.h v.e v.hB v.ht X v.hX hf).mono ?_;rintro e w' ⟨r,rfl,h1,h2,h3⟩;exact⟨_,r,rfl,.no (.of h1.wk) h2 h3 (by decide) (.k1 hk X v.sameT.symm rfl (.inl ⟨rfl,hf,rfl,rfl⟩))⟩
 ·have h1:X.made≠30:=fun e=>hf (.inl e);have h2:X.own.n≠10:=fun e=>hf (.inr e);refine(RE w B P s g ca q co lt lo t _ v.h v.hB v.ht X v.hX h1 h2 (by omega) (by omega) (by omega) ⟨(CY (Au X).toNat).toArray⟩ (fun W hW=>If (Au X) W (by unfold Au;omega) (by unfold Au;omega) (v.tab.lowB hW h18))).mono ?_;rintro e w' ⟨a,cc,L,hL,rfl,hs,hb⟩;rw[Ql (Rp v.thr.own)]at hL;subst hL;exact⟨_,_,rfl,.yes hb hs.f (.k1 hk _ rfl rfl (.inr ⟨rfl,hf,rfl,a,cc,rfl⟩))⟩
theorem ar(v:Env E w B P s g ca q co lt lo t c C nb kv K X)(hk:s.kind=12):
 Calls prog 113 #[.pointer (some ⟨P,0,none⟩)] w fun e w'=>∃r,e= .returned r/\Oc E B P s lt lo t X (.map (some c)) w w' ⟨#[]⟩ r:=by
 have sf:=Gl v.so;refine(Vh E w B P s g ca q co lt lo t _ v.h v.e v.h14 v.hB v.hs v.ht X v.hX (Dx X.b1 X.c1 X.own s.b1 s.c1) (Dx s.b1 s.c1 X.own X.b2 X.c2) (fun W hW=>JG (v.xat.below hW).1 (v.xat.below hW).2.2 (v.hs W (hW.mono v.hB)).1 v.thr.l1 v.thr.own sf.l1) (fun W hW=>JG (v.hs W (hW.mono v.hB)).1 (v.xat.below hW).2.2 (v.xat.below hW).2.1 sf.l1 v.thr.own v.thr.l2) rfl (by have:=(Bo sf.l1).2;omega)).mono ?_;rintro e w' ⟨r,x,c',rfl,h1,h2,h3,h4⟩;refine⟨r,rfl,?_⟩;rcases h4 with⟨rfl,a1,_⟩|⟨rfl,a1,d,a2,rfl⟩
 ·exact .no (.of h1.wk) h2 h3 (by decide) (.k12 hk X (v.sameT).symm rfl rfl (.inl ⟨rfl,a1,rfl⟩))
 ·rcases h3 with⟨_,rfl⟩|⟨h,_⟩
  ·exact .yes h2 h1.f (.k12 hk _ rfl rfl rfl (.inr ⟨rfl,a1,d,a2,rfl⟩))
  ·exact absurd rfl h
theorem ZW(v:Env E w B P s g ca q co lt lo t c C nb kv K X)(hk:s.kind=14):
 Calls prog 114 #[.pointer (some ⟨P,0,none⟩)] w fun e w'=>∃r,e= .returned r/\Oc E B P s lt lo t X (.map (some c)) w w' ⟨#[]⟩ r:=by
 refine(VX E w B P s g ca q co lt lo t _ v.h v.e v.h14 v.hB v.ht X v.hX (fun i j hij hj=>by have:=X1 v.thr.own i j hij hj;omega)).mono ?_;rintro e w' ⟨r,x,c',rfl,h1,h2,h3,h4⟩;refine⟨r,rfl,?_⟩;rcases h4 with⟨rfl,a1,_⟩|⟨rfl,a1,a,cc,rfl⟩
 ·exact .no (.of h1.wk) h2 h3 (by decide) (.k14 hk X (v.sameT).symm rfl rfl (.inl ⟨rfl,a1,rfl⟩))
 ·rcases h3 with⟨_,rfl⟩|⟨h,_⟩
  ·exact .yes h2 h1.f (.k14 hk _ rfl rfl rfl (.inr ⟨rfl,a1,a,cc,rfl⟩))
  ·exact absurd rfl h
theorem kinds{k:Int}(h:1<=k/\k<=15):k=1∨(k=2∨k=3∨k=4∨k=5)∨k=11∨k=12∨k=14∨(k=6∨k=7∨k=8∨k=9∨k=10∨k=13∨k=15):=by omega
theorem YZ(v:Env E w B P s g ca q co lt lo t c C nb kv K X)(h18:18<=B):
 Calls prog 57 #[.pointer (some ⟨P,0,none⟩)] w fun e w'=>∃tx r,e= .returned (.tuple #[.string tx,r])/\Oc E B P s lt lo t X (.map (some c)) w w' tx r:=by
 have VV:=hid v;obtain⟨⟨k0,k1,k2,k3,k4,k5,k6,k7,k8,k9⟩,k10,k11,k12,k13⟩:=v.h.wk.work;have kd:=(Gl v.so).kind;clear v;rcases kinds kd with hk|hk|hk|hk|hk|hk
 ·have CC:=hid (cm VV h18 hk);rw[hk]at k1;clear hk kd;go_enter func57,ntmps57
  go_wp2_with fail
  refine CC.out.mono ?_;rintro e w9 ⟨tx,r,rfl,rp⟩;have RP:=hid rp;clear rp;go_wp2;go_ret2;exact⟨_,_,rfl,RP⟩
 ·have CC:=hid (Mh VV h18 hk);rcases hk with hk|hk|hk|hk;all_goals(
   rw[hk]at k1;clear hk kd;go_enter func57,ntmps57
   go_wp2_with fail
   refine CC.out.mono ?_;rintro e w9 ⟨tx,r,rfl,rp⟩;have RP:=hid rp;clear rp;go_wp2;go_ret2;exact⟨_,_,rfl,RP⟩)
 ·have CC:=hid (Ye VV hk);rw[hk]at k1;clear hk kd;go_enter func57,ntmps57
  go_wp2_with fail
  refine CC.out.mono ?_;rintro e w9 ⟨r,rfl,rp⟩;have RP:=hid rp.q;clear rp;go_wp2;go_ret2;exact⟨_,_,rfl,RP⟩
 ·have CC:=hid (ar VV hk);rw[hk]at k1;clear hk kd;go_enter func57,ntmps57
  go_wp2_with fail
  refine CC.out.mono ?_;rintro e w9 ⟨r,rfl,rp⟩;have RP:=hid rp;clear rp;go_wp2;go_ret2;exact⟨_,_,rfl,RP⟩
 ·have CC:=hid (ZW VV hk);rw[hk]at k1;clear hk kd;go_enter func57,ntmps57
  go_wp2_with fail
  refine CC.out.mono ?_;rintro e w9 ⟨r,rfl,rp⟩;have RP:=hid rp;clear rp;go_wp2;go_ret2;exact⟨_,_,rfl,RP⟩
 ·have CC:=hid (Yt VV hk);rcases hk with hk|hk|hk|hk|hk|hk|hk;all_goals(
   rw[hk]at k1;clear hk kd;go_enter func57,ntmps57
   go_wp2_with fail
   refine CC.out.mono ?_;rintro e w9 ⟨tx,r,rfl,rp⟩;have RP:=hid rp.q;clear rp;go_wp2;go_ret2;exact⟨_,_,rfl,RP⟩)
end
theorem JV(n:Int)(used:Bool)(w:World):
 Calls prog 106 #[.int .i64 n,.bool used] w fun e w'=>e= .returned (.bool (Lr n used))/\w'=w:=by
 cases used with
 |false=>
  go_enter func106,ntmps106
  go_wp2;go_ret;exact⟨Ag (by simp[Lr]),rfl⟩
 |true=>
  go_enter func106,ntmps106
  go_wp2
  ·go_ret;exact⟨Ag (by simp only[Lr,if_true];exact(JE ‹_›).symm),rfl⟩
  ·go_ret;exact⟨Ag (by simp only[Lr,if_true];exact(MN ‹_›).symm),rfl⟩
theorem Tz(kind:Int)(w:World):
 Calls prog 102 #[.int .i64 kind] w fun e w'=>e= .returned (.tuple #[.agg #[.bool (Zr kind),.bool (aE kind),.bool (Rb kind),.bool (PM kind),.bool (Ke kind),.bool (Ii kind)],.bool (ZD kind)])/\Below w w w':=by
 by_cases h1:kind=1
 ·subst h1;go_enter func102,ntmps102
  go_wp2;refine bodyPost_ret (v:= .tuple #[.agg #[.bool false,.bool false,.bool false,.bool false,.bool false,.bool false],.bool true]) (by simp[results,Tryz.results102,go_sem]) rfl ⟨by rfl,(Below.refl _ w).alloc (Nat.le_refl _) _⟩
 by_cases h2:kind=2
 ·subst h2;go_enter func102,ntmps102
  go_wp2;refine bodyPost_ret (v:= .tuple #[.agg #[.bool true,.bool false,.bool false,.bool false,.bool true,.bool false],.bool true]) (by simp[results,Tryz.results102,go_sem]) rfl ⟨by rfl,(Below.refl _ w).alloc (Nat.le_refl _) _⟩
 by_cases h3:kind=3
 ·subst h3;go_enter func102,ntmps102
  go_wp2;refine bodyPost_ret (v:= .tuple #[.agg #[.bool true,.bool false,.bool false,.bool false,.bool true,.bool false],.bool true]) (by simp[results,Tryz.results102,go_sem]) rfl ⟨by rfl,(Below.refl _ w).alloc (Nat.le_refl _) _⟩
 by_cases h4:kind=4
 ·subst h4;go_enter func102,ntmps102
  go_wp2;refine bodyPost_ret (v:= .tuple #[.agg #[.bool true,.bool false,.bool false,.bool false,.bool true,.bool false],.bool true]) (by simp[results,Tryz.results102,go_sem]) rfl ⟨by rfl,(Below.refl _ w).alloc (Nat.le_refl _) _⟩
 by_cases h5:kind=5
 ·subst h5;go_enter func102,ntmps102
  go_wp2;refine bodyPost_ret (v:= .tuple #[.agg #[.bool true,.bool false,.bool true,.bool false,.bool true,.bool true],.bool true]) (by simp[results,Tryz.results102,go_sem]) rfl ⟨by rfl,(Below.refl _ w).alloc (Nat.le_refl _) _⟩
 by_cases h6:kind=6
 ·subst h6;go_enter func102,ntmps102
  go_wp2;refine bodyPost_ret (v:= .tuple #[.agg #[.bool true,.bool false,.bool false,.bool true,.bool false,.bool false],.bool true]) (by simp[results,Tryz.results102,go_sem]) rfl ⟨by rfl,(Below.refl _ w).alloc (Nat.le_refl _) _⟩
 by_cases h7:kind=7
 ·subst h7;go_enter func102,ntmps102
  go_wp2;refine bodyPost_ret (v:= .tuple #[.agg #[.bool true,.bool false,.bool false,.bool false,.bool false,.bool false],.bool true]) (by simp[results,Tryz.results102,go_sem]) rfl ⟨by rfl,(Below.refl _ w).alloc (Nat.le_refl _) _⟩
 by_cases h8:kind=8
 ·subst h8;go_enter func102,ntmps102
  go_wp2;refine bodyPost_ret (v:= .tuple #[.agg #[.bool true,.bool true,.bool false,.bool false,.bool false,.bool false],.bool true]) (by simp[results,Tryz.results102,go_sem]) rfl ⟨by rfl,(Below.refl _ w).alloc (Nat.le_refl _) _⟩
 by_cases h9:kind=9
 ·subst h9;go_enter func102,ntmps102
  go_wp2;refine bodyPost_ret (v:= .tuple #[.agg #[.bool true,.bool false,.bool false,.bool true,.bool false,.bool false],.bool true]) (by simp[results,Tryz.results102,go_sem]) rfl ⟨by rfl,(Below.refl _ w).alloc (Nat.le_refl _) _⟩
 by_cases h10:kind=10
 ·subst h10;go_enter func102,ntmps102
  go_wp2;refine bodyPost_ret (v:= .tuple #[.agg #[.bool true,.bool false,.bool false,.bool false,.bool false,.bool false],.bool true]) (by simp[results,Tryz.results102,go_sem]) rfl ⟨by rfl,(Below.refl _ w).alloc (Nat.le_refl _) _⟩
 by_cases h11:kind=11
 ·subst h11;go_enter func102,ntmps102
  go_wp2;refine bodyPost_ret (v:= .tuple #[.agg #[.bool true,.bool false,.bool false,.bool false,.bool false,.bool false],.bool true]) (by simp[results,Tryz.results102,go_sem]) rfl ⟨by rfl,(Below.refl _ w).alloc (Nat.le_refl _) _⟩
 by_cases h12:kind=12
 ·subst h12;go_enter func102,ntmps102
  go_wp2;refine bodyPost_ret (v:= .tuple #[.agg #[.bool false,.bool false,.bool false,.bool false,.bool true,.bool false],.bool true]) (by simp[results,Tryz.results102,go_sem]) rfl ⟨by rfl,(Below.refl _ w).alloc (Nat.le_refl _) _⟩
 by_cases h13:kind=13
 ·subst h13;go_enter func102,ntmps102
  go_wp2;refine bodyPost_ret (v:= .tuple #[.agg #[.bool true,.bool false,.bool false,.bool false,.bool false,.bool false],.bool true]) (by simp[results,Tryz.results102,go_sem]) rfl ⟨by rfl,(Below.refl _ w).alloc (Nat.le_refl _) _⟩
 by_cases h14:kind=14
 ·subst h14;go_enter func102,ntmps102
  go_wp2;refine bodyPost_ret (v:= .tuple #[.agg #[.bool false,.bool false,.bool true,.bool false,.bool false,.bool false],.bool true]) (by simp[results,Tryz.results102,go_sem]) rfl ⟨by rfl,(Below.refl _ w).alloc (Nat.le_refl _) _⟩
 by_cases h15:kind=15
 ·subst h15;go_enter func102,ntmps102
  go_wp2;refine bodyPost_ret (v:= .tuple #[.agg #[.bool true,.bool false,.bool false,.bool false,.bool false,.bool false],.bool true]) (by simp[results,Tryz.results102,go_sem]) rfl ⟨by rfl,(Below.refl _ w).alloc (Nat.le_refl _) _⟩
 have g1:(kind==1)=false:=by simpa using h1
 have g2:(kind==2)=false:=by simpa using h2
 have g3:(kind==3)=false:=by simpa using h3
 have g4:(kind==4)=false:=by simpa using h4
 have g5:(kind==5)=false:=by simpa using h5
 have g6:(kind==6)=false:=by simpa using h6
 have g7:(kind==7)=false:=by simpa using h7
 have g8:(kind==8)=false:=by simpa using h8
 have g9:(kind==9)=false:=by simpa using h9
 have g10:(kind==10)=false:=by simpa using h10
 have g11:(kind==11)=false:=by simpa using h11
 have g12:(kind==12)=false:=by simpa using h12
 have g13:(kind==13)=false:=by simpa using h13
 have g14:(kind==14)=false:=by simpa using h14
 have g15:(kind==15)=false:=by simpa using h15
 clear h1 h2 h3 h4 h5 h6 h7 h8 h9 h10 h11 h12 h13 h14 h15;go_enter func102,ntmps102
 go_wp2;refine bodyPost_ret (v:= .tuple #[.agg #[.bool false,.bool false,.bool false,.bool false,.bool false,.bool false],.bool false]) (by simp[results,Tryz.results102,go_sem]) rfl ⟨by simp[Zr,aE,Rb,PM,Ke,Ii,ZD,g1,g2,g3,g4,g5,g6,g7,g8,g9,g10,g11,g12,g13,g14,g15],(Below.refl _ w).alloc (Nat.le_refl _) _⟩
theorem Ah.six{W:World}{P t:Nat}{x0 x1 x2 x3 x4 x5:Value}(h:Ah W P (.cells #[x0,x1,x2,x3,x4,x5] t)):W.cell? ⟨P,0,none⟩=some x0/\W.cell? ⟨P,1,none⟩=some x1/\W.cell? ⟨P,2,none⟩=some x2/\W.cell? ⟨P,3,none⟩=some x3/\W.cell? ⟨P,4,none⟩=some x4/\W.cell? ⟨P,5,none⟩=some x5:=by
 unfold Ah at h;simp[World.cell?,h]
theorem Vy(th kind id to' cat:Int)(d:ByteArray)(bl:Int)(al:Option Addr)(nl kl:Nat)(bc:Int)(ac:Option Addr)(nc kc:Nat)(used:Bool)(w:World):
 Calls prog 107 #[.agg #[th,.int .i64 kind,.int .i64 id,.int .i64 to',cat,.string d,.int .i64 bl,.slice al nl kl,.int .i64 bc,.slice ac nc kc],.bool used] w fun e w'=>e= .returned (.bool (Mr kind cat used))/\Below w w w':=by
 have hb0:=(Below.refl _ w).alloc (Nat.le_refl _) (.cells #[th,.int .i64 kind,.int .i64 id,.int .i64 to',cat,.string d,.int .i64 bl,.slice al nl kl,.int .i64 bc,.slice ac nc kc] 44);cases t:(cat==0)with
 |true=>
  go_enter func107,ntmps107
  go_wp2;go_ret;exact⟨Ag (by simp[Mr,t]),hb0⟩
 |false=>
  cases used with
  |true=>
   go_enter func107,ntmps107
   go_wp2_with(go_at_call 129;refine(He _ _).mono ?_;rintro e w' ⟨rfl,rfl⟩)
   go_ret;exact⟨Ag (by simp[Mr,t]),hb0⟩
  |false=>
   go_enter func107,ntmps107
   go_wp2;go_ret;exact⟨Ag (by simp[Mr,t]),hb0⟩
section
variable {P:Program}{ops:Array Oper}{Q:Exit->Act->World->Prop}{a:Act}{w:World}
def Bm(P:Program)(ops:Array Oper)(Q:Exit->Act->World->Prop)(i:Nat)(a:Act)(w:World):Prop:=wpOps P ops Q (List.range' i (ops.size-i)) a w
theorem Bm.region{id:Nat}(h:Bm P ops Q 0 a w):(Code.region id ops false).wp P Q a w:=by
 refine wp_region ?_;unfold Bm at h;rw[Nat.sub_zero,<-List.range_eq_range']at h;exact h
theorem Us{i n:Nat}(h:i<n):List.range' i (n-i)=i::List.range' (i+1) (n-(i+1)):=by
 obtain⟨k,hk⟩:∃k,n-i=k+1:=⟨n-i-1,by omega⟩;have:n-(i+1)=k:=by omega
 rw[hk,this,List.range'_succ]
theorem Bm.step{i:Nat}{o:Oper}(ho:ops[i]? =some o)(h:∀K':Act->World->Prop,Hid (∀a w,Bm P ops Q (i+1) a w->K' a w)->if Region.wanted o (yielded ops a.tmps)=true then Oper.wp P o a w K' Q else K' (a.put o.dst undef) w):Bm P ops Q i a w:=by
 have hlt:i<ops.size:=(Array.getElem?_eq_some_iff.1 ho).1;unfold Bm;rw[Us hlt];unfold wpOps;rw[ho];dsimp only;have:=h (wpOps P ops Q (List.range' (i+1) (ops.size-(i+1)))) (fun a w h=>h);split
 ·rename_i hw;rw[if_pos hw]at this;exact .inl this
 ·rename_i hw;rw[if_neg hw]at this;exact this
theorem Bm.take{i d:Nat}{o:Oper}(v:Value)(ho:ops[i]? =some o)(hd:o.dst=some d)(hw:Region.wanted o (yielded ops a.tmps)=true)(hv:(execOp a.eval o).run P w= .ok (.value v) w)
 (h:Bm P ops Q (i+1) (a.put (some d) v) w):Bm P ops Q i a w:=
 Bm.step ho fun K' hK=>by
  rw[if_pos hw];unfold Oper.wp;rw[hv];simp only[Oper.upon];rw[hd];exact hK.out _ _ h
theorem Bm.done{i:Nat}(hi:ops.size<=i)(h:Q .normal a w):Bm P ops Q i a w:=by
 unfold Bm;have:ops.size-i=0:=by omega
 rw[this];exact h
def Value.isUndef:Value->Bool
 | .tuple xs=>xs.size==0
 |_=>false
def idle(ops:Array Oper)(tmps:Array Value)(k:Nat):Bool:=match ops[k]? with
 |some o=> !(Region.wanted o (yielded ops tmps))&&match o.dst with
  |some d=>match tmps[d]? with
   |some v=>Value.isUndef v
   |none=>false
  |none=>true
 |none=>false
theorem VU{d:Nat}(h:(match a.tmps[d]? with|some v=>Value.isUndef v|none=>false)=true):a.put (some d) undef=a:=by
 cases hv:a.tmps[d]? with
 |none=>rw[hv]at h;simp at h
 |some v=>
  rw[hv]at h;dsimp only at h;have hu:v=undef:=by
   cases v with
   |tuple xs=>
    have hs:xs.size=0:=(by simpa[Value.isUndef]using h);have:xs=#[]:=Array.eq_empty_of_size_eq_zero hs;rw[this];rfl
   |_=>simp[Value.isUndef]at h
  obtain⟨hlt,he⟩:=Array.getElem?_eq_some_iff.1 hv;cases a with
  |mk tmps defers=>
   simp only[Act.put];congr;apply Array.ext
   ·simp
   ·intro i h1 h2;by_cases e:d=i
    ·subst e;rw[Array.getElem_setIfInBounds_self];rw[<-hu];exact he.symm
    ·rw[Array.getElem_setIfInBounds_ne _ e]
theorem Bm.pass{j:Nat}(m:Nat):∀{i:Nat},i+m=j->(List.range' i m).all (idle ops a.tmps)=true->Bm P ops Q j a w->Bm P ops Q i a w:=by
 induction m with
 |zero=>intro i hi _ h;have e:i=j:=by omega
        rw[e];exact h
 |succ m ih=>
  intro i hi hall h;rw[List.range'_succ,List.all_cons,Bool.and_eq_true]at hall;obtain⟨h1,h2⟩:=hall;have hrest:=ih (i:=i+1) (by omega) h2 h;unfold idle at h1;cases ho:ops[i]? with
  |none=>rw[ho]at h1;simp at h1
  |some o=>
   rw[ho]at h1;dsimp only at h1;rw[Bool.and_eq_true]at h1;have hw:Region.wanted o (yielded ops a.tmps)=false:=(by simpa using h1.1);refine Bm.step ho fun K' hK=>?_;rw[if_neg (by rw[hw];simp)];cases hd:o.dst with
   |none=>exact hK.out _ _ hrest
   |some d=>
    have h3:=h1.2;rw[hd]at h3;dsimp only at h3;rw[VU h3];exact hK.out _ _ hrest
end
end Go.Proofs.YtmikapeeflcbfaaGreatDoor
