import Derived.Test.YteoihknaljgocaaGreatDoorDWSm
set_option maxRecDepth 100000
set_option maxHeartbeats 16000000
namespace Go.Proofs.YteoihknaljgocaaGreatDoor
open Go Go.RowKit Go.Deep Go.Maps Go.BigFrame Go.Shelf Go.Proofs.Tryz
theorem VH(v:Value)(W:World):(method 390 189 (.agg #[v]) "loop.example/g00272/impl.takes").run prog W= .ok (238,.agg #[v]) W:=by kernel_rfl
theorem Wv(v:Value)(W:World):(nilAhead 390 189 (.agg #[v]) "loop.example/g00272/impl.takes").run prog W= .ok (some false) W:=by kernel_rfl
theorem Vn(v:Value)(W:World):(method 390 189 (.agg #[v]) "loop.example/g00272/impl.label").run prog W= .ok (147,.agg #[v]) W:=by kernel_rfl
theorem Wh(v:Value)(W:World):(method 390 191 (.agg #[v]) "loop.example/g00272/impl.takes").run prog W= .ok (239,.agg #[v]) W:=by kernel_rfl
theorem Vu(v:Value)(W:World):(nilAhead 390 191 (.agg #[v]) "loop.example/g00272/impl.takes").run prog W= .ok (some false) W:=by kernel_rfl
theorem Ws(v:Value)(W:World):(method 390 191 (.agg #[v]) "loop.example/g00272/impl.label").run prog W= .ok (147,.agg #[v]) W:=by kernel_rfl
theorem Wg(v:Value)(W:World):(method 390 193 (.agg #[v]) "loop.example/g00272/impl.takes").run prog W= .ok (240,.agg #[v]) W:=by kernel_rfl
theorem VX(v:Value)(W:World):(nilAhead 390 193 (.agg #[v]) "loop.example/g00272/impl.takes").run prog W= .ok (some false) W:=by kernel_rfl
theorem Wz(v:Value)(W:World):(method 390 193 (.agg #[v]) "loop.example/g00272/impl.label").run prog W= .ok (147,.agg #[v]) W:=by kernel_rfl
theorem WG(v:Value)(W:World):(method 390 195 (.agg #[v]) "loop.example/g00272/impl.takes").run prog W= .ok (241,.agg #[v]) W:=by kernel_rfl
theorem WB(v:Value)(W:World):(nilAhead 390 195 (.agg #[v]) "loop.example/g00272/impl.takes").run prog W= .ok (some false) W:=by kernel_rfl
theorem VQ(v:Value)(W:World):(method 390 195 (.agg #[v]) "loop.example/g00272/impl.label").run prog W= .ok (147,.agg #[v]) W:=by kernel_rfl
theorem KZ{ops:Array Oper}{o:Oper}{a:Act}{w:World}{K:Act->World->Prop}{Q:Exit->Act->World->Prop}{E:Prop}(hw:Region.wanted o (yielded ops a.tmps)=true)(x:Operand)(nm:String)(ats:Array TypeId)
 (ho:o.op= .call {callee:= .invoke x nm,args:=#[],argTypes:=ats})(T:TypeId)(v r:Value)(f:Nat)(hv:a.eval x= .iface T v)(hm:∀W,(method 390 T v nm).run prog W= .ok (f,r) W)(eg:∀args w,(callFunc f args).run prog w= .ok (.enter f args) w)
 (d:Option Nat)(hd:o.dst=d)(R:Value->World->Prop)(hc:Calls prog f #[r] w fun e w'=>∃v,e= .returned v/\R v w')(h:∀v w',R v w'->K (a.put d v) w'):
 if Region.wanted o (yielded ops a.tmps)=true then Oper.wp prog o a w K Q else E:=by
 rw[if_pos hw];have e:(execOp a.eval o).run prog w= .ok (.enter f #[r]) w:=by
  unfold execOp;simp only[ho,resolve,invoke,callMethod,Sem.run_bind,List.map_toArray,List.map_nil,hv];simp[go_sem,hm,eg]
 unfold Oper.wp;rw[e,Oper.upon_enter];exact hc.mono fun e w' ⟨v,he,hr⟩=>by subst he;rw[hd];exact h v w' hr
theorem QG{ops:Array Oper}{o:Oper}{a:Act}{w:World}{K:Act->World->Prop}{Q:Exit->Act->World->Prop}{E:Prop}(hw:Region.wanted o (yielded ops a.tmps)=true)(x y:Operand)(nm:String)(ats:Array TypeId)
 (ho:o.op= .call {callee:= .invoke x nm,args:=#[y],argTypes:=ats})(T:TypeId)(v r:Value)(f:Nat)(hv:a.eval x= .iface T v)(hm:∀W,(method 390 T v nm).run prog W= .ok (f,r) W)(eg:∀args w,(callFunc f args).run prog w= .ok (.enter f args) w)(v1:Value)(hv1:a.eval y=v1)
 (d:Option Nat)(hd:o.dst=d)(R:Value->World->Prop)(hc:Calls prog f #[r,v1] w fun e w'=>∃v,e= .returned v/\R v w')(h:∀v w',R v w'->K (a.put d v) w'):
 if Region.wanted o (yielded ops a.tmps)=true then Oper.wp prog o a w K Q else E:=by
 rw[if_pos hw];have e:(execOp a.eval o).run prog w= .ok (.enter f #[r,v1]) w:=by
  unfold execOp;simp only[ho,resolve,invoke,callMethod,Sem.run_bind,List.map_toArray,List.map_cons,List.map_nil,hv,hv1];simp[go_sem,hm,eg]
 unfold Oper.wp;rw[e,Oper.upon_enter];exact hc.mono fun e w' ⟨v,he,hr⟩=>by subst he;rw[hd];exact h v w' hr
theorem Tp{X:Ae}{s:Al}{lt:List Ae}{lo:List Ab}{t:Nat}(hk:s.kind=6∨s.kind=7∨s.kind=8∨s.kind=9∨s.kind=10∨s.kind=13∨s.kind=15)(h:Cc X lo s.id (Il s.kind)=none):FA X s lt lo t 4 ⟨#[]⟩ lt lo:=by
 rcases hk with hk|hk|hk|hk|hk|hk|hk
 ·exact .k6 hk (.inl ⟨by rw[hk]at h;exact h,rfl,rfl,rfl,rfl⟩)
 ·exact .k7 hk (.inl ⟨by rw[hk]at h;exact h,rfl,rfl,rfl,rfl⟩)
 ·exact .k8 hk (.inl ⟨by rw[hk]at h;exact h,rfl,rfl,rfl,rfl⟩)
 ·exact .k9 hk (.inl ⟨by rw[hk]at h;exact h,rfl,rfl,rfl,rfl⟩)
 ·exact .k10 hk (.inl ⟨by rw[hk]at h;exact h,rfl,rfl,rfl,rfl⟩)
 ·exact .k13 hk (.inl ⟨by rw[hk]at h;exact h,rfl,rfl,rfl,rfl⟩)
 ·exact .k15 hk (.inl ⟨by rw[hk]at h;exact h,rfl,rfl,rfl,rfl⟩)
theorem av{X:Ae}{s:Al}{lt:List Ae}{lo:List Ab}{t u:Nat}(hk:s.kind=6∨s.kind=9∨s.kind=10)(h:Cc X lo s.id (Il s.kind)=some u)(hc:Ap X (Aa lo u).b1 (Aa lo u).c1=false):FA X s lt lo t 4 ⟨#[]⟩ lt lo:=by
 rcases hk with hk|hk|hk
 ·exact .k6 hk (.inr ⟨u,by rw[hk]at h;exact h,.inl ⟨hc,rfl,rfl,rfl,rfl⟩⟩)
 ·exact .k9 hk (.inr ⟨u,by rw[hk]at h;exact h,.inl ⟨hc,rfl,rfl,rfl,rfl⟩⟩)
 ·exact .k10 hk (.inr ⟨u,by rw[hk]at h;exact h,.inl ⟨hc,rfl,rfl,rfl,rfl⟩⟩)
def Kd(s:Al)(kd:Int)(T f:Nat)(tk:Bool):Prop:=
 (kd=1/\T=189/\f=238/\tk=(s.kind==6||s.kind==7||s.kind==8))∨(kd=2/\T=191/\f=239/\tk=(s.kind==9||s.kind==10))∨(kd=3/\T=193/\f=240/\tk=(s.kind==15))∨(kd=4/\T=195/\f=241/\tk=(s.kind==13))
theorem bv{s:Al}{o:Ab}(h:MA o):∃T f tk,Ew o.kind=T/\Kd s o.kind T f tk:=by
 have hk:=h.kind;unfold Hl at hk;by_cases h1:o.kind=1
 ·exact⟨_,_,_,by rw[h1];rfl,.inl ⟨h1,rfl,rfl,rfl⟩⟩
 ·by_cases h2:o.kind=2
  ·exact⟨_,_,_,by rw[h2];rfl,.inr (.inl ⟨h2,rfl,rfl,rfl⟩)⟩
  ·by_cases h3:o.kind=3
   ·exact⟨_,_,_,by rw[h3];rfl,.inr (.inr (.inl ⟨h3,rfl,rfl,rfl⟩))⟩
   ·by_cases h4:o.kind=4
    ·exact⟨_,_,_,by rw[h4];rfl,.inr (.inr (.inr ⟨h4,rfl,rfl,rfl⟩))⟩
    ·rw[if_neg h1,if_neg h2,if_neg h3,if_neg h4]at hk;cases hk
theorem Kd.meth{s:Al}{kd:Int}{T f:Nat}{tk:Bool}(h:Kd s kd T f tk)(v:Value):(∀W,(method 390 T (.agg #[v]) "loop.example/g00272/impl.takes").run prog W= .ok (f,.agg #[v]) W)/\(∀W,(method 390 T (.agg #[v]) "loop.example/g00272/impl.label").run prog W= .ok (147,.agg #[v]) W)/\(∀args w,(callFunc f args).run prog w= .ok (.enter f args) w)/\(∀W,Calls prog f #[.agg #[v],s.kind] W fun e w'=>∃r,e= .returned r/\(r= .bool tk/\Below W W w'))/\(∀W,(nilAhead 390 T (.agg #[v]) "loop.example/g00272/impl.takes").run prog W= .ok (some false) W):=by
 rcases h with⟨_,rfl,rfl,rfl⟩|⟨_,rfl,rfl,rfl⟩|⟨_,rfl,rfl,rfl⟩|⟨_,rfl,rfl,rfl⟩
 ·exact⟨VH v,Vn v,enters_of func238 (by kernel_rfl) rfl,fun W=>(Kz v s.kind W).mono fun _ _ h=>⟨_,h.1,rfl,h.2⟩,Wv v⟩
 ·exact⟨Wh v,Ws v,enters_of func239 (by kernel_rfl) rfl,fun W=>(Mx v s.kind W).mono fun _ _ h=>⟨_,h.1,rfl,h.2⟩,Vu v⟩
 ·exact⟨Wg v,Wz v,enters_of func240 (by kernel_rfl) rfl,fun W=>(Pm v s.kind W).mono fun _ _ h=>⟨_,h.1,rfl,h.2⟩,VX v⟩
 ·exact⟨WG v,VQ v,enters_of func241 (by kernel_rfl) rfl,fun W=>(Nb v s.kind W).mono fun _ _ h=>⟨_,h.1,rfl,h.2⟩,WB v⟩
theorem Kd.no{s:Al}{kd:Int}{T f:Nat}(h:Kd s kd T f false)(hk:s.kind=6∨s.kind=7∨s.kind=8∨s.kind=9∨s.kind=10∨s.kind=13∨s.kind=15):kd≠Il s.kind:=by
 unfold Kd at h;rcases hk with hk|hk|hk|hk|hk|hk|hk<;>rw[hk]at h ⊢ <;>rcases h with⟨rfl,_,_,h⟩|⟨rfl,_,_,h⟩|⟨rfl,_,_,h⟩|⟨rfl,_,_,h⟩<;>revert h<;>decide
theorem Kd.yes{s:Al}{kd:Int}{T f:Nat}(h:Kd s kd T f true)(hk:s.kind=6∨s.kind=7∨s.kind=8∨s.kind=9∨s.kind=10∨s.kind=13∨s.kind=15):kd=Il s.kind:=by
 unfold Kd at h;rcases hk with hk|hk|hk|hk|hk|hk|hk<;>rw[hk]at h ⊢ <;>rcases h with⟨rfl,_,_,h⟩|⟨rfl,_,_,h⟩|⟨rfl,_,_,h⟩|⟨rfl,_,_,h⟩<;>revert h<;>decide
section
variable {E:Nat->Addr}{w:World}{B P:Nat}{s:Al}{g ca q co:Nat}{lt:List Ae}{lo:List Ab}{t c C:Nat}{nb:Nat->Nat}{kv:Nat->Value}{K:Nat->List Int}{X:Ae}
theorem YQ(v:Env E w B P s g ca q co lt lo t c C nb kv K X)(hk:s.kind=6∨s.kind=7∨s.kind=8∨s.kind=9∨s.kind=10∨s.kind=13∨s.kind=15):
 Calls prog 92 #[.pointer P] w fun e w'=>∃tx r,e= .returned (.tuple #[.string tx,r])/\JW E B P s lt lo t X (.map (some c)) w w' tx r:=by
 have VV:=hid v;obtain⟨⟨k0,k1,k2,k3,k4,k5,k6,k7,k8,k9⟩,k10,k11,k12,k13⟩:=v.h.wk.jZ;have TH:=hid (Ju w B P s g ca q co lt lo t c C lo.length _ nb kv K v.h v.n nr (Cm v.ok) s.id (bS (GB v.so)));have HK:=hid hk;clear v hk;go_enter func92,ntmps92
 go_wp2_with fail
 refine TH.out.mono ?_;rintro e w1 ⟨hr,b1⟩;have A1:=hid b1;clear TH b1 k0 k1 k2 k3 k4 k5 k6 k7 k8 k9 k10 k11 k12 k13;rcases hr with⟨hf,rfl⟩|⟨u,hf,rfl⟩
 ·have AN:Hid (FA X s lt lo t 4 ⟨#[]⟩ lt lo):=hid (Tp HK (by unfold Cc;rw[show Gl lo s.id=none from hf]));clear hf;have D0:=hid (Below.refl w1 w1).drew;have A2:=hid (Af A1 D0);go_upto_region 2 with fail
  refine Am 16 (fun W=>Below w1 w1 W) (by kernel_rfl) ?_;refine tr 0 17 (.nilIface) D0 ?_;refine tr 1 18 (.bool true) D0 ?_;refine tr 2 19 (.bool true) D0 ?_;refine Ph 11 [(3,20),(4,21),(5,22),(6,23),(7,24),(8,25),(9,26),(10,27),(11,28),(12,29),(13,30)] rfl (by kernel_rfl) D0 ?_;simp only[E8,ap,List.set];refine tr 14 31 (.bool true) D0 ?_;refine tr 15 16 (.bool true) D0 ?_;refine Aj (by kernel_rfl) ?_ _;have e9:=((VV.out.below A2).e 6 (by omega) (by omega)).1;have sz:=(VV.out.below A2).hB;go_wp2_with fail
  refine(Bv 259 (.pointer (some (E 6))) _).mono ?_;rintro e w9 ⟨rfl,rfl⟩;go_wp2;go_ret2;have b3:=Af A2 (Bf _ (.cells #[.int .i64 4,.iface 259 (.pointer (some (E 6)))] 66));exact⟨_,_,rfl,.no (.of (VV.out.below b3).h.wk) (b3.mono VV.out.hB) (Cl _ E sz 4 (by decide) 6 (by decide) (by decide) (by decide) (by first|rfl|simp)) (by decide) (AN)⟩
 ·obtain⟨ul,_⟩:=Av hf;have HF:Hid (Gl lo s.id=some u):=hid hf;obtain⟨T,f,tk,et,HKd⟩:=bv (s:=s) (VV.out.obj ul);rw[et];have KD:=hid HKd;obtain⟨MT,ML,EN,TK,NA⟩:=HKd.meth (.pointer (some ⟨q,u*10,none⟩));have HNA:=hid NA;have HMT:=hid MT;have HML:=hid ML;have HEN:=hid EN;have HTK:=hid TK;clear hf et HKd MT ML EN TK NA;have EL:Hid (∀args w,(callFunc 147 args).run prog w= .ok (.enter 147 args) w):=hid (enters_of func147 (by kernel_rfl) rfl);have ES:Hid (∀args w,(callFunc 29 args).run prog w= .ok (.enter 29 args) w):=hid (enters_of func29 (by kernel_rfl) rfl);have EC:Hid (∀args w,(callFunc 13 args).run prog w= .ok (.enter 13 args) w):=hid (enters_of func13 (by kernel_rfl) rfl);have EW:Hid (∀args w,(callFunc 133 args).run prog w= .ok (.enter 133 args) w):=hid (enters_of func133 (by kernel_rfl) rfl);have BX:Hid (∀W,Below w1 w1 W->Ag W P (.cells (Ie s g lt.length ca q lo.length co t (.map (some c))) 100)/\Fi W g (t*7) X):=hid (fun W hW=>by
   have V:=VV.out.below (Af A1 hW);have C:=(V.h.st.jJ V.ht).1;rw[<-V.hX]at C;exact⟨V.h.wk,C⟩)
  have n1:Na #[.pointer (some ⟨q,u*10,none⟩)]:=⟨⟩;have PL:Hid (∀W,Below w1 w1 W->Calls prog 147 #[.agg n1] W fun e w'=>∃v,e= .returned v/\(v= .agg #[.int .i64 (Aa lo u).b1,.slice (Aa lo u).c1.a (Aa lo u).c1.n (Aa lo u).c1.k]/\Below W W w')):=hid (fun W hW=>by
   have V:=VV.out.below (Af A1 hW);obtain⟨CO,ql⟩:=V.h.st.jF ul (Cm V.ok);rw[<-Az ul]at CO;exact(Lc q (u*10) (Aa lo u).b1 (Aa lo u).c1 W ql CO.c3 CO.c4).mono fun _ _ h=>⟨_,h.1,rfl,h.2⟩)
  have D0:=hid (Below.refl w1 w1).drew;go_upto_region 2 with fail
  refine Am 16 (fun W=>Below w1 w1 W) (by kernel_rfl) ?_;refine tr 0 17 (.iface T (.agg n1)) D0 ?_;refine tr 1 18 (.bool false) D0 ?_;refine tr 2 19 (.bool false) D0 ?_;refine tr 3 20 (.iface T (.agg n1)) D0 ?_;have n2:Nv (.pointer P):=⟨⟩;refine tr 4 21 n2 D0 ?_;refine tr 5 22 n2 D0 ?_;refine tr 6 23 n2 D0 ?_;have n6:Nv (.pointer (some ⟨P,1,none⟩)):=⟨⟩;refine tr 7 24 n6 D0 ?_;refine tr 8 25 (.int .i64 s.kind) D0 ?_ (hy:=fun W h=>by obtain⟨⟨k0,k1,k2,k3,k4,k5,k6,k7,k8,k9⟩,k10,k11,k12,k13⟩:=(BX W h).1.jZ;go_simp);refine tr 9 26 (.func (.method "loop.example/g00272/impl.takes") #[(.iface T (.agg n1))] #[]) D0 ?_;refine tr 10 27 (.func (.method "loop.example/g00272/impl.takes") #[(.iface T (.agg n1))] #[]) D0 ?_ (hy:=fun W h=>by have y:=HNA.out W;go_simp);refine tr 11 28 (.iface T (.agg n1)) D0 ?_;refine Ac (i:=12) (by kernel_rfl) rfl ?_;intro K hK;refine QG (by rfl) _ _ _ _ (by rfl) T _ _ f (by rfl) HMT HEN _ (by rfl) (some 29) (by rfl) _ (HTK _) ?_;rintro v w2 ⟨rfl,b2⟩;have V1:=hid (Af D0 b2);refine hK _ _ (fun _=>V1) ?_;clear hK K b2;simp only[ap,List.set];refine tr 13 30 (.bool (!tk)) V1 ?_;refine tr 14 31 (.bool (!tk)) V1 ?_;refine tr 15 16 (.bool (!tk)) V1 ?_;refine Aj (by kernel_rfl) ?_ _;have A2:=hid (Af A1 V1);cases tk with
  |false=>
   have AN:Hid (FA X s lt lo t 4 ⟨#[]⟩ lt lo):=hid (Tp HK (by unfold Cc;rw[HF.out];simp only;rw[if_neg (by simp[KD.out.no HK.out])]));have e9:=((VV.out.below A2).e 6 (by omega) (by omega)).1;have sz:=(VV.out.below A2).hB;go_wp2_with fail
   refine(Bv 259 (.pointer (some (E 6))) _).mono ?_;rintro e w9 ⟨rfl,rfl⟩;go_wp2;go_ret2;have b3:=Af A2 (Bf _ (.cells #[.int .i64 4,.iface 259 (.pointer (some (E 6)))] 66));exact⟨_,_,rfl,.no (.of (VV.out.below b3).h.wk) (b3.mono VV.out.hB) (Cl _ E sz 4 (by decide) 6 (by decide) (by decide) (by decide) (by first|rfl|simp)) (by decide) (AN)⟩
  |true=>
   have HW:=hid (KD.out.yes HK);go_upto_region 4 with fail
   have D1:=hid V1.out.drew;refine Am 11 (fun W=>Below w1 w1 W) (by kernel_rfl) ?_;refine tr 0 35 n2 D1 ?_;refine tr 1 36 n2 D1 ?_;have n5:Nv (.pointer (some ⟨P,12,none⟩)):=⟨⟩;refine tr 2 37 n5 D1 ?_;have n4:Nv (.pointer (some ⟨g,t*7,none⟩)):=⟨⟩;refine tr 3 38 n4 D1 ?_ (hy:=fun W h=>by obtain⟨⟨k0,k1,k2,k3,k4,k5,k6,k7,k8,k9⟩,k10,k11,k12,k13⟩:=(BX W h).1.jZ;go_simp);refine tr 4 39 n4 D1 ?_;have n3:Nv (.agg X):=⟨⟩;refine tr 5 40 n3 D1 ?_ (hy:=fun W h=>by have C:=(BX W h).2;have y0:=C.c0;have y1:=C.c1;have y2:W.cell? ⟨g,t*7+2,none⟩=some (.slice X.c1.a X.c1.n X.c1.k):=C.c2;have y3:=C.c3;have y4:W.cell? ⟨g,t*7+4,none⟩=some (.slice X.c2.a X.c2.n X.c2.k):=C.c4;have y5:W.cell? ⟨g,t*7+5,none⟩=some (.slice X.own.a X.own.n X.own.k):=C.c5;have y6:=C.c6;go_simp);refine tr 6 41 (.iface T (.agg n1)) D1 ?_;refine Ac (i:=7) (by kernel_rfl) rfl ?_;intro K hK;refine KZ (by rfl) _ _ _ (by rfl) T _ _ _ (by rfl) HML EL (some 42) (by rfl) _ (PL _ D1) ?_;rintro v w3 ⟨rfl,b3⟩;have V2:=hid (Af D1 b3);refine hK _ _ (fun _=>V2) ?_;clear hK K b3;simp only[ap,List.set];have PS:=hid (Ej (VV.out.sees u ul _ (Af A1 V2)));refine Ac (i:=8) (by kernel_rfl) rfl ?_;intro K hK;refine AL (by rfl) 29 _ _ _ (by rfl) ES _ _ (by rfl) (by rfl) (some 43) (by rfl) _ PS ?_;rintro v w4 ⟨rfl,b4⟩;have V3:=hid (Af V2 b4);refine hK _ _ (fun _=>V3) ?_;clear hK K b4 PS;simp only[ap,List.set];refine tr 9 44 (.bool (!Gz X (Aa lo u).b1 (Aa lo u).c1)) V3 ?_;refine tr 10 34 (.bool (!Gz X (Aa lo u).b1 (Aa lo u).c1)) V3 ?_;refine Aj (by kernel_rfl) ?_ _;have A3:=hid (Af A1 V3);cases hs:Gz X (Aa lo u).b1 (Aa lo u).c1 with
   |false=>
    have AN:Hid (FA X s lt lo t 4 ⟨#[]⟩ lt lo):=hid (Tp HK (by unfold Cc;rw[HF.out];simp only;rw[if_neg (by simp[hs])]));clear hs;have e9:=((VV.out.below A3).e 11 (by omega) (by omega)).1;have sz:=(VV.out.below A3).hB;go_wp2_with fail
    refine(Bv 259 (.pointer (some (E 11))) _).mono ?_;rintro e w9 ⟨rfl,rfl⟩;go_wp2;go_ret2;have b3:=Af A3 (Bf _ (.cells #[.int .i64 4,.iface 259 (.pointer (some (E 11)))] 66));exact⟨_,_,rfl,.no (.of (VV.out.below b3).h.wk) (b3.mono VV.out.hB) (Cl _ E sz 4 (by decide) 11 (by decide) (by decide) (by decide) (by first|rfl|simp)) (by decide) (AN)⟩
   |true=>
    have HU:Hid (Cc X lo s.id (Il s.kind)=some u):=hid (by unfold Cc;rw[HF.out];simp only;rw[if_pos (by simp[hs,HW.out])]);clear hs;have V2:=V3;clear V1;go_upto_region 6 with fail
    have D2:=hid V2.out.drew;have PW:Hid (Calls prog 133 #[s.kind] w4.drew fun e w'=>∃v,e= .returned v/\(v= .bool (s.kind==6||s.kind==9||s.kind==10)/\Below w4.drew.heap.size w4.drew w')):=hid ((Tr s.kind w4.drew).mono fun _ _ h=>⟨_,h.1,rfl,h.2⟩);refine Am 19 (fun W=>Below w1 w1 W) (by kernel_rfl) ?_;refine tr 0 48 n2 D2 ?_;refine tr 1 49 n2 D2 ?_;refine tr 2 50 n2 D2 ?_;refine tr 3 51 n6 D2 ?_;refine tr 4 52 (.int .i64 s.kind) D2 ?_ (hy:=fun W h=>by obtain⟨⟨k0,k1,k2,k3,k4,k5,k6,k7,k8,k9⟩,k10,k11,k12,k13⟩:=(BX W h).1.jZ;go_simp);refine Ac (i:=5) (by kernel_rfl) rfl ?_;intro K hK;refine AE (by rfl) 133 _ _ (by rfl) EW _ (by rfl) (some 53) (by rfl) _ PW ?_;rintro v w5 ⟨rfl,b5⟩;have V3:=hid (Af D2 b5);refine hK _ _ (fun _=>V3) ?_;clear hK K b5 PW;simp only[ap,List.set];refine tr 6 54 (.bool (s.kind==6||s.kind==9||s.kind==10)) V3 ?_;cases hw:(s.kind==6||s.kind==9||s.kind==10)with
    |false=>
     refine Ph 10 [(7,55),(8,56),(9,57),(10,58),(11,59),(12,60),(13,61),(14,62),(15,63),(16,64)] rfl (by kernel_rfl) V3 ?_;simp only[E8,ap,List.set];refine tr 17 65 (.bool false) V3 ?_;refine tr 18 47 (.bool false) V3 ?_;refine Aj (by kernel_rfl) ?_ _;have A4:=hid (Af A1 V3);have NW:=hid hw;clear hw;rcases KD with⟨_,rfl,rfl,hq⟩|⟨_,rfl,rfl,hq⟩|⟨_,rfl,rfl,hq⟩|⟨_,rfl,rfl,hq⟩
     ·have HQ0:s.kind=7∨s.kind=8:=by
       have nw:=NW.out;have hq':(s.kind=6∨s.kind=7)∨s.kind=8:=(by simpa[Bool.or_eq_true]using hq.symm);rcases hq' with(h|h)|h
       ·exfalso;rw[h]at nw;revert nw;decide
       ·exact .inl h
       ·exact .inr h
      have HQ:=hid HQ0;clear hq HQ0;have eW:Il s.kind=1:=(by(rcases HQ with h|h<;>rw[h]<;>decide));have HU2:Hid (Cc X lo s.id 1=some u):=hid (by rw[<-eW];exact HU.out);clear eW;have a0:=Qz 184 (.agg n1) w5;have A5:=hid (Af A4 (Bf w5 (.cells n1 189)));have CC:=hid (bu (VV.out.below A5) HU2 (.inr HQ));go_wp2_with fail
      refine CC.out.mono ?_;rintro e w9 ⟨tx,r,rfl,rp⟩;have RP:=hid (rp.from (A5.out.mono VV.out.hB));clear rp;go_wp2;go_ret2;exact⟨_,_,rfl,RP⟩
     ·exfalso;have nw:=NW.out;have hq':s.kind=9∨s.kind=10:=(by simpa[Bool.or_eq_true]using hq.symm);rcases hq' with h|h<;>rw[h]at nw<;>revert nw<;>decide
     ·have HQ0:s.kind=15:=by
       simpa using hq.symm
      have HQ:=hid HQ0;clear hq HQ0;have eW:Il s.kind=3:=(by(rw[HQ.out];decide));have HU2:Hid (Cc X lo s.id 3=some u):=hid (by rw[<-eW];exact HU.out);clear eW;have a0:=QH 184 193 (.agg n1) w5 (by decide);have a1:=XH 184 193 (.agg n1) w5 (by decide);have a2:=UN 184 (.agg n1) w5;have A5:=hid (Af A4 (Bf w5 (.cells n1 193)));have CC:=hid (cd (VV.out.below A5) HU2 HQ);go_wp2_with fail
      refine CC.out.mono ?_;rintro e w9 ⟨tx,rfl,rp⟩;have RP:=hid (rp.from (A5.out.mono VV.out.hB));clear rp;go_wp2;go_ret2;exact⟨_,_,rfl,RP⟩
     ·have HQ0:s.kind=13:=by
       simpa using hq.symm
      have HQ:=hid HQ0;clear hq HQ0;have eW:Il s.kind=4:=(by(rw[HQ.out];decide));have HU2:Hid (Cc X lo s.id 4=some u):=hid (by rw[<-eW];exact HU.out);clear eW;have a0:=QH 184 195 (.agg n1) w5 (by decide);have a1:=XH 184 195 (.agg n1) w5 (by decide);have a2:=XY 184 195 (.agg n1) w5 (by decide);have a3:=YA 184 (.agg n1) w5;have A5:=hid (Af A4 (Bf w5 (.cells n1 195)));have CC:=hid (bZ (VV.out.below A5) HU2 HQ);go_wp2_with fail
      refine CC.out.mono ?_;rintro e w9 ⟨r,rfl,rp⟩;have RP:=hid (rp.from (A5.out.mono VV.out.hB));clear rp;go_wp2;go_ret2;exact⟨_,_,rfl,RP⟩
    |true=>
     refine tr 7 55 n2 V3 ?_;refine tr 8 56 n2 V3 ?_;refine tr 9 57 n5 V3 ?_;refine tr 10 58 n4 V3 ?_ (hy:=fun W h=>by obtain⟨⟨k0,k1,k2,k3,k4,k5,k6,k7,k8,k9⟩,k10,k11,k12,k13⟩:=(BX W h).1.jZ;go_simp);refine tr 11 59 n4 V3 ?_;refine tr 12 60 n3 V3 ?_ (hy:=fun W h=>by have C:=(BX W h).2;have y0:=C.c0;have y1:=C.c1;have y2:W.cell? ⟨g,t*7+2,none⟩=some (.slice X.c1.a X.c1.n X.c1.k):=C.c2;have y3:=C.c3;have y4:W.cell? ⟨g,t*7+4,none⟩=some (.slice X.c2.a X.c2.n X.c2.k):=C.c4;have y5:W.cell? ⟨g,t*7+5,none⟩=some (.slice X.own.a X.own.n X.own.k):=C.c5;have y6:=C.c6;go_simp);refine tr 13 61 (.iface T (.agg n1)) V3 ?_;refine Ac (i:=14) (by kernel_rfl) rfl ?_;intro K hK;refine KZ (by rfl) _ _ _ (by rfl) T _ _ _ (by rfl) HML EL (some 62) (by rfl) _ (PL _ V3) ?_;rintro v w6 ⟨rfl,b6⟩;have V4:=hid (Af V3 b6);refine hK _ _ (fun _=>V4) ?_;clear hK K b6;simp only[ap,List.set];have PS:=hid (Ej (VV.out.changes u ul _ (Af A1 V4)));refine Ac (i:=15) (by kernel_rfl) rfl ?_;intro K hK;refine AL (by rfl) 13 _ _ _ (by rfl) EC _ _ (by rfl) (by rfl) (some 63) (by rfl) _ PS ?_;rintro v w7 ⟨rfl,b7⟩;have V5:=hid (Af V4 b7);refine hK _ _ (fun _=>V5) ?_;clear hK K b7 PS;simp only[ap,List.set];refine tr 16 64 (.bool (!Ap X (Aa lo u).b1 (Aa lo u).c1)) V5 ?_;refine tr 17 65 (.bool (!Ap X (Aa lo u).b1 (Aa lo u).c1)) V5 ?_;refine tr 18 47 (.bool (!Ap X (Aa lo u).b1 (Aa lo u).c1)) V5 ?_;refine Aj (by kernel_rfl) ?_ _;have A4:=hid (Af A1 V5);have KW:Hid (s.kind=6∨s.kind=9∨s.kind=10):=hid (by simpa[Bool.or_eq_true,or_assoc]using hw);clear hw;cases hc:Ap X (Aa lo u).b1 (Aa lo u).c1 with
     |false=>
      have AN:Hid (FA X s lt lo t 4 ⟨#[]⟩ lt lo):=hid (av KW HU hc);clear hc;have e9:=((VV.out.below A4).e 8 (by omega) (by omega)).1;have sz:=(VV.out.below A4).hB;go_wp2_with fail
      refine(Bv 259 (.pointer (some (E 8))) _).mono ?_;rintro e w9 ⟨rfl,rfl⟩;go_wp2;go_ret2;have b3:=Af A4 (Bf _ (.cells #[.int .i64 4,.iface 259 (.pointer (some (E 8)))] 66));exact⟨_,_,rfl,.no (.of (VV.out.below b3).h.wk) (b3.mono VV.out.hB) (Cl _ E sz 4 (by decide) 8 (by decide) (by decide) (by decide) (by first|rfl|simp)) (by decide) (AN)⟩
     |true=>
      have HC:=hid hc;clear hc;rcases KD with⟨_,rfl,rfl,hq⟩|⟨_,rfl,rfl,hq⟩|⟨_,rfl,rfl,hq⟩|⟨_,rfl,rfl,hq⟩
      ·have HQ0:s.kind=6:=by
        rcases KW with h|h|h<;>first|exact h|exact .inl h|exact .inr h|(exfalso;rw[h]at hq;revert hq;decide)
       have HQ:=hid HQ0;clear hq HQ0;have eW:Il s.kind=1:=(by(rw[HQ.out];decide));have HU2:Hid (Cc X lo s.id 1=some u):=hid (by rw[<-eW];exact HU.out);clear eW;have a0:=Qz 184 (.agg n1) w7;have A5:=hid (Af A4 (Bf w7 (.cells n1 189)));have CC:=hid (bu (VV.out.below A5) HU2 (.inl ⟨HQ,HC⟩));go_wp2_with fail
       refine CC.out.mono ?_;rintro e w9 ⟨tx,r,rfl,rp⟩;have RP:=hid (rp.from (A5.out.mono VV.out.hB));clear rp;go_wp2;go_ret2;exact⟨_,_,rfl,RP⟩
      ·have HQ0:s.kind=9∨s.kind=10:=by
        rcases KW with h|h|h<;>first|exact h|exact .inl h|exact .inr h|(exfalso;rw[h]at hq;revert hq;decide)
       have HQ:=hid HQ0;clear hq HQ0;have eW:Il s.kind=2:=(by(rcases HQ with h|h<;>rw[h]<;>decide));have HU2:Hid (Cc X lo s.id 2=some u):=hid (by rw[<-eW];exact HU.out);clear eW;have a0:=QH 184 191 (.agg n1) w7 (by decide);have a1:=YW 184 (.agg n1) w7;have A5:=hid (Af A4 (Bf w7 (.cells n1 191)));have CC:=hid (cr (VV.out.below A5) HU2 HC HQ);go_wp2_with fail
       refine CC.out.mono ?_;rintro e w9 ⟨tx,r,rfl,rp⟩;have RP:=hid (rp.from (A5.out.mono VV.out.hB));clear rp;go_wp2;go_ret2;exact⟨_,_,rfl,RP⟩
      ·exfalso;rcases KW with h|h|h<;>rw[h]at hq<;>revert hq<;>decide
      ·exfalso;rcases KW with h|h|h<;>rw[h]at hq<;>revert hq<;>decide
end
section
variable {E:Nat->Addr}{w W:World}{B P:Nat}{s:Al}{g ca q co:Nat}{lt:List Ae}{lo:List Ab}{t c C:Nat}{nb:Nat->Nat}{kv:Nat->Value}{K:Nat->List Int}{X:Ae}
theorem Nk.no{m:Value}{w':World}{tx:ByteArray}{r:Value}{c:Int}(kp:KP w' P)(hb:Below B w w')(ht:Told w' B E r c)(hc:c≠0)(ha:FA X s lt lo t c ⟨#[]⟩ lt lo):Nk E B P s lt lo t X m w w' tx r:=⟨hb,.inl ⟨kp,c,ht,hc,ha⟩⟩
theorem Nk.yes{m:Value}{w':World}{tx:ByteArray}{lt':List Ae}{lo':List Ab}{g' ca' q' co':Nat}(hb:Below B w w')(hs:M6 w' B P s g' ca' q' co' lt' lo' t m)(ha:FA X s lt lo t 0 tx lt' lo'):Nk E B P s lt lo t X m w w' tx .nilIface:=⟨hb,.inr ⟨rfl,_,_,_,_,_,_,_,hs,IQ.refl _,ha⟩⟩
theorem Env.sameT(v:Env E w B P s g ca q co lt lo t c C nb kv K X):lt.set t X=lt:=by rw[v.hX,Fl]
theorem ct(v:Env E w B P s g ca q co lt lo t c C nb kv K X)(h18:18<=B)(hk:s.kind=1):
 Calls prog 87 #[.pointer P] w fun e w'=>∃tx r,e= .returned (.tuple #[.string tx,r])/\Nk E B P s lt lo t X (.map (some c)) w w' tx r:=by
 have i:=v.thr.id;have m:=v.thr.made;have o:=Jb v.thr.own;by_cases hf:X.made=30∨X.own.n=10
 ·refine(Qg E w B P s g ca q co lt lo t _ v.h v.e v.hB v.ht X v.hX hf).mono ?_;rintro e w' ⟨r,rfl,h1,h2,h3⟩;exact⟨_,r,rfl,.no (.of h1.wk) h2 h3 (by decide) (.k1 hk X v.sameT.symm rfl (.inl ⟨rfl,hf,rfl,rfl⟩))⟩
 ·have h1:X.made≠30:=fun e=>hf (.inl e);have h2:X.own.n≠10:=fun e=>hf (.inr e);refine(RH w B P s g ca q co lt lo t _ v.h v.hB v.ht X v.hX h1 h2 (by omega) (by omega) (by omega) ⟨(Db (Aq X).toNat).toArray⟩ (fun W hW=>Jo (Aq X) W (by unfold Aq;omega) (by unfold Aq;omega) (v.tab.lowB hW h18))).mono ?_;rintro e w' ⟨a,cc,L,hL,rfl,hs,hb⟩;rw[QJ (SI v.thr.own)]at hL;subst hL;exact⟨_,_,rfl,.yes hb hs.f (.k1 hk _ rfl rfl (.inr ⟨rfl,hf,rfl,a,cc,rfl⟩))⟩
theorem ar(v:Env E w B P s g ca q co lt lo t c C nb kv K X)(hk:s.kind=12):
 Calls prog 90 #[.pointer P] w fun e w'=>∃r,e= .returned r/\Nk E B P s lt lo t X (.map (some c)) w w' ⟨#[]⟩ r:=by
 have sf:=GB v.so;refine(VG E w B P s g ca q co lt lo t _ v.h v.e v.h14 v.hB v.hs v.ht X v.hX (CY X.b1 X.c1 X.own s.b1 s.c1) (CY s.b1 s.c1 X.own X.b2 X.c2) (fun W hW=>IB (v.xat.below hW).1 (v.xat.below hW).2.2 (v.hs W (hW.mono v.hB)).1 v.thr.l1 v.thr.own sf.l1) (fun W hW=>IB (v.hs W (hW.mono v.hB)).1 (v.xat.below hW).2.2 (v.xat.below hW).2.1 sf.l1 v.thr.own v.thr.l2) rfl (by have:=(BH sf.l1).2;omega)).mono ?_;rintro e w' ⟨r,x,c',rfl,h1,h2,h3,h4⟩;refine⟨r,rfl,?_⟩;rcases h4 with⟨rfl,a1,_⟩|⟨rfl,a1,d,a2,rfl⟩
 ·exact .no (.of h1.wk) h2 h3 (by decide) (.k12 hk X (v.sameT).symm rfl rfl (.inl ⟨rfl,a1,rfl⟩))
 ·rcases h3 with⟨_,rfl⟩|⟨h,_⟩
  ·exact .yes h2 h1.f (.k12 hk _ rfl rfl rfl (.inr ⟨rfl,a1,d,a2,rfl⟩))
  ·exact absurd rfl h
theorem ZH(v:Env E w B P s g ca q co lt lo t c C nb kv K X)(hk:s.kind=14):
 Calls prog 91 #[.pointer P] w fun e w'=>∃r,e= .returned r/\Nk E B P s lt lo t X (.map (some c)) w w' ⟨#[]⟩ r:=by
 refine(WC E w B P s g ca q co lt lo t _ v.h v.e v.h14 v.hB v.ht X v.hX (fun i j hij hj=>by have:=WM v.thr.own i j hij hj;omega)).mono ?_;rintro e w' ⟨r,x,c',rfl,h1,h2,h3,h4⟩;refine⟨r,rfl,?_⟩;rcases h4 with⟨rfl,a1,_⟩|⟨rfl,a1,a,cc,rfl⟩
 ·exact .no (.of h1.wk) h2 h3 (by decide) (.k14 hk X (v.sameT).symm rfl rfl (.inl ⟨rfl,a1,rfl⟩))
 ·rcases h3 with⟨_,rfl⟩|⟨h,_⟩
  ·exact .yes h2 h1.f (.k14 hk _ rfl rfl rfl (.inr ⟨rfl,a1,a,cc,rfl⟩))
  ·exact absurd rfl h
theorem kinds{k:Int}(h:1<=k/\k<=15):k=1∨(k=2∨k=3∨k=4∨k=5)∨k=11∨k=12∨k=14∨(k=6∨k=7∨k=8∨k=9∨k=10∨k=13∨k=15):=by omega
theorem Zm(v:Env E w B P s g ca q co lt lo t c C nb kv K X)(h18:18<=B):
 Calls prog 46 #[.pointer P] w fun e w'=>∃tx r,e= .returned (.tuple #[.string tx,r])/\Nk E B P s lt lo t X (.map (some c)) w w' tx r:=by
 have VV:=hid v;obtain⟨⟨k0,k1,k2,k3,k4,k5,k6,k7,k8,k9⟩,k10,k11,k12,k13⟩:=v.h.wk.jZ;have kd:=(GB v.so).kind;clear v;rcases kinds kd with hk|hk|hk|hk|hk|hk
 ·have CC:=hid (ct VV h18 hk);rw[hk]at k1;clear hk kd;go_enter func46,ntmps46
  go_wp2_with fail
  refine CC.out.mono ?_;rintro e w9 ⟨tx,r,rfl,rp⟩;have RP:=hid rp;clear rp;go_wp2;go_ret2;exact⟨_,_,rfl,RP⟩
 ·have CC:=hid (Nx VV h18 hk);rcases hk with hk|hk|hk|hk;all_goals(
   rw[hk]at k1;clear hk kd;go_enter func46,ntmps46
   go_wp2_with fail
   refine CC.out.mono ?_;rintro e w9 ⟨tx,r,rfl,rp⟩;have RP:=hid rp;clear rp;go_wp2;go_ret2;exact⟨_,_,rfl,RP⟩)
 ·have CC:=hid (WP VV hk);rw[hk]at k1;clear hk kd;go_enter func46,ntmps46
  go_wp2_with fail
  refine CC.out.mono ?_;rintro e w9 ⟨r,rfl,rp⟩;have RP:=hid rp.q;clear rp;go_wp2;go_ret2;exact⟨_,_,rfl,RP⟩
 ·have CC:=hid (ar VV hk);rw[hk]at k1;clear hk kd;go_enter func46,ntmps46
  go_wp2_with fail
  refine CC.out.mono ?_;rintro e w9 ⟨r,rfl,rp⟩;have RP:=hid rp;clear rp;go_wp2;go_ret2;exact⟨_,_,rfl,RP⟩
 ·have CC:=hid (ZH VV hk);rw[hk]at k1;clear hk kd;go_enter func46,ntmps46
  go_wp2_with fail
  refine CC.out.mono ?_;rintro e w9 ⟨r,rfl,rp⟩;have RP:=hid rp;clear rp;go_wp2;go_ret2;exact⟨_,_,rfl,RP⟩
 ·have CC:=hid (YQ VV hk);rcases hk with hk|hk|hk|hk|hk|hk|hk;all_goals(
   rw[hk]at k1;clear hk kd;go_enter func46,ntmps46
   go_wp2_with fail
   refine CC.out.mono ?_;rintro e w9 ⟨tx,r,rfl,rp⟩;have RP:=hid rp.q;clear rp;go_wp2;go_ret2;exact⟨_,_,rfl,RP⟩)
end
theorem Yf(E:Nat->Addr)(s:Al):Xl E s:=fun v h=>Zm v h
end Go.Proofs.YteoihknaljgocaaGreatDoor
