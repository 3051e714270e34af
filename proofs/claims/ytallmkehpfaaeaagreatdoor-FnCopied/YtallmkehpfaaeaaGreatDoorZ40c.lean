import Derived.Test.YtallmkehpfaaeaaGreatDoorZ29c
import Derived.Test.YtallmkehpfaaeaaGreatDoorZ39c
import Derived.Test.YtallmkehpfaaeaaGreatDoorZ34c
import Derived.Test.YtallmkehpfaaeaaGreatDoorZ0c
import Derived.Test.YtallmkehpfaaeaaGreatDoorZ36c
set_option maxRecDepth 100000
set_option maxHeartbeats 16000000
namespace Go.Proofs.YtallmkehpfaaeaaGreatDoor
open Go Go.RowKit Go.Deep Go.Maps Go.Proofs.Tryz
theorem Yp{x:Int}(h:Pw x):(Lit.int .i64 x).wf=true:=by
 have e1:IntKind.i64.min= -9223372036854775808:=by decide
 have e2:IntKind.i64.max=9223372036854775807:=by decide
 simp[Lit.wf,e1,e2];unfold Pw at h;omega
theorem GO.at{w:World}{B ca co:Nat}{ta oa:Option Addr}{lt:List Ae}{lo:List Ab}(h:GO w B (.slice ta lt.length ca) (.slice oa lo.length co) lt lo)(f:M3 lt lo):(Cl ta ca oa co lt lo).at w:=
 ⟨Nat.le_trans f.tn.2 (by unfold maxLen;omega),Nat.le_trans f.on.2 (by unfold maxLen;omega),h.t.lies (fun x hx=>(h.tn x hx).at),h.o.lies (fun x hx=>(h.on x hx).at (f.data x hx))⟩
theorem M3.wf{lt:List Ae}{lo:List Ab}(f:M3 lt lo):∀i,i<lo.length->(Lit.int .i64 (Aa lo i).id).wf=true/\(Lit.int .i64 (Aa lo i).up).wf=true:=fun i hi=>by
 have h:=f.o _ (List.getElem_mem hi);rw[AH hi];exact⟨Qv h.2.1,Yp h.2.2⟩
theorem M3.small{lt:List Ae}{lo:List Ab}(f:M3 lt lo)(ta oa:Option Addr)(ca co:Nat):(Cl ta ca oa co lt lo).small:=⟨⟨by show lt.length<=1048576;have:=f.tn.2;omega,fun i hi=>by
 have hi':i<lt.length:=hi;show(AY lt i).small;rw[Em hi'];exact f.t _ (List.getElem_mem hi')⟩,by show lo.length<=1048576;have:=f.on.2;omega,fun i hi=>by
 have hi':i<lo.length:=hi;show(Aa lo i).small;rw[AH hi'];exact(f.o _ (List.getElem_mem hi')).1⟩
structure Kn(B:Nat)(W:World)(lt:List Ae)(lo:List Ab)(ta oa:Option Addr)(ca co:Nat):Prop where
 st:GO W B (.slice ta lt.length ca) (.slice oa lo.length co) lt lo
 f:M3 lt lo
theorem Kn.below{B:Nat}{W W':World}{lt:List Ae}{lo:List Ab}{ta oa:Option Addr}{ca co:Nat}(h:Kn B W lt lo ta oa ca co)(hb:Below W.heap.size W W'):Kn B W' lt lo ta oa ca co:=⟨h.st.below hb,h.f⟩
theorem Kn.cap{B:Nat}{W:World}{lt:List Ae}{lo:List Ab}{ta oa:Option Addr}{ca co:Nat}(h:Kn B W lt lo ta oa ca co):lo.length<=co:=(Ek h.st.o).1
def Uz(W:World)(E:Nat->Addr):Prop:=Mm W E/\Vz W E/\SI W
theorem Uz.below{W W':World}{E:Nat->Addr}(h:Uz W E)(hb:Below W.heap.size W W'):Uz W' E:=⟨h.1.below (by have:=h.2.1.2.2.2;omega) hb,h.2.1.below hb,h.2.2.below hb⟩
section
variable {B:Nat}{W:World}{lt:List Ae}{lo:List Ab}{ta oa:Option Addr}{ca co:Nat} (h:Kn B W lt lo ta oa ca co)
include h
theorem Kn.done{E:Nat->Addr}{s:Al}(hr:VC E s)(hs:s.at W)(v:Uz W E):Calls prog 12 #[.agg #[.slice ta lt.length ca,.slice oa lo.length co],.agg #[.int .i64 s.th,.int .i64 s.kind,.int .i64 s.id,.int .i64 s.to,.int .i64 s.cat,.string s.data,.int .i64 s.b1,.slice s.c1.a s.c1.n s.c1.k,.int .i64 s.b2,.slice s.c2.a s.c2.n s.c2.k]] W fun e w'=>Tq (Cl ta ca oa co lt lo) s W e w':=
 (Ow E (Cl ta ca oa co lt lo) s hr W (h.st.at h.f) hs h.cap h.f.wf v.1 v.2.1 v.2.2).mono fun _ _ d=>d.ans
theorem Kn.spec{s:Al}(hs:s.at W):Calls prog 13 #[.agg #[.slice ta lt.length ca,.slice oa lo.length co],.agg #[.int .i64 s.th,.int .i64 s.kind,.int .i64 s.id,.int .i64 s.to,.int .i64 s.cat,.string s.data,.int .i64 s.b1,.slice s.c1.a s.c1.n s.c1.k,.int .i64 s.b2,.slice s.c2.a s.c2.n s.c2.k]] W fun e w'=>XC (Cl ta ca oa co lt lo) s W e w':=
 Q0 (Cl ta ca oa co lt lo) W (h.st.at h.f) (fun i hi=>(h.f.wf i hi).1) s hs
theorem Kn.obj{x:Int}(hx:(Lit.int .i64 x).wf=true):Calls prog 18 #[.agg #[.slice ta lt.length ca,.slice oa lo.length co],.int .i64 x] W fun e w'=>JZ (Cl ta ca oa co lt lo) x W w' e:=
 JB (Cl ta ca oa co lt lo) x W (h.st.at h.f) (h.f.small ta oa ca co) h.cap h.f.wf hx
end
theorem XZ{lt lt':List Ae}{lo lo':List Ab}{s:Al}{c:Int}{tx:ByteArray}(h:FP lt lo s c tx lt' lo'):FP (lt.map Ae.nm) (lo.map Ab.nm) s c tx (lt'.map Ae.nm) (lo'.map Ab.nm):=by
 cases h with
 |form a b c d e=>exact .form a b c (by rw[d]) (by rw[e])
 |thread a b c d e f=>exact .thread a (by rw[Sx];exact b) c d (by rw[e]) (by rw[f])
 |act a t ht hn p=>exact .act a t (by simpa using ht) (by rw[Sx];exact hn) (by rw[List.getElem_map];exact Vj p)
theorem UG{l m:List Ae}(h:I3 l m):l.map Ae.nm=m.map Ae.nm:=PH h.1 fun j hj=>UO (Fz _) (h.2 j hj)
theorem We{l m:List Ab}(h:IF l m):l.map Ab.nm=m.map Ab.nm:=Qx h.1 fun j hj=>VT (Ab.same.refl _) (h.2 j hj)
theorem OV{ta oa:Option Addr}{ca co:Nat}{lt lt':List Ae}{lo lo':List Ab}{s:Al}{c:Int}{tx:ByteArray}(ok:okL lt lo=true)(h:Ep (Cl ta ca oa co lt lo) s c tx lt' lo'):FP (lt.map Ae.nm) (lo.map Ab.nm) s c tx (lt'.map Ae.nm) (lo'.map Ab.nm):=by
 rcases h with⟨e,_⟩|⟨_,Kj,Nz,lt2,lo2,sm,st,so,d⟩
 ·rw[show Bo (Cl ta ca oa co lt lo)=true from ok]at e;cases e
 ·obtain⟨et,eo⟩:=Wd (Vx ta ca oa co lt lo) sm;have:=XZ d;rw[et,eo,UG st,We so];exact this
theorem Ep.ok2{ta oa:Option Addr}{ca co:Nat}{lt lt':List Ae}{lo lo':List Ab}{s:Al}{c:Int}{tx:ByteArray}(ok:Go.Proofs.YtallmkehpfaaeaaGreatDoor.okL lt lo=true)(h:Ep (Cl ta ca oa co lt lo) s c tx lt' lo'):Go.Proofs.YtallmkehpfaaeaaGreatDoor.okL lt' lo'=true:=by
 rcases h with⟨e,_⟩|⟨a,Kj,Nz,lt2,lo2,b,x,y,d⟩
 ·rw[show Bo (Cl ta ca oa co lt lo)=true from ok]at e;cases e
 ·have o0:Go.Proofs.YtallmkehpfaaeaaGreatDoor.okL Kj Nz=true:=(BU b).trans a;exact(BU (k:=Cl none 0 none 0 lt' lo') (l:=Cl none 0 none 0 lt2 lo2) ⟨x.1,x.2,y.1,y.2⟩).symm.trans (I6 o0 d)
section
variable {X:Ae}{s:Al}{lt lt':List Ae}{lo lo':List Ab}{t:Nat}{c:Int}{tx:ByteArray}
theorem YX(p:FJ X s lt lo t c tx lt' lo')(hk:s.kind=6):XP X s lt lo t c tx lt' lo':=by
 cases p<;>first|assumption|(exfalso;omega)
theorem YV(p:FJ X s lt lo t c tx lt' lo')(hk:s.kind=7):XK X s lt lo t c tx lt' lo':=by
 cases p<;>first|assumption|(exfalso;omega)
theorem Y8(p:FJ X s lt lo t c tx lt' lo')(hk:s.kind=8):XJ X s lt lo t c tx lt' lo':=by
 cases p<;>first|assumption|(exfalso;omega)
end
theorem P8{lt lt':List Ae}{lo lo':List Ab}{s:Al}{tx:ByteArray}(d:FP lt lo s 0 tx lt' lo'):s.ok=true/\∃(t:Nat) (ht:t<lt.length),Pm lt s.th=some t/\FJ lt[t] s lt lo t 0 tx lt' lo':=by
 cases d with
 |form _ hc=>cases hc
 |thread _ _ hc=>cases hc
 |act a t ht hn p=>exact⟨a,t,ht,hn,p⟩
theorem Ve{lt lt':List Ae}{lo lo':List Ab}{s:Al}{c:Int}{tx:ByteArray}(d:FP lt lo s c tx lt' lo')(ok:s.ok=true){t:Nat}(ht:t<lt.length)(hat:Pm lt s.th=some t):FJ lt[t] s lt lo t c tx lt' lo':=by
 cases d with
 |form a=>rw[ok]at a;cases a
 |thread _ b=>rw[hat]at b;cases b
 |act _ t' ht' hn p=>
  obtain rfl:t=t':=Option.some.inj (hat.symm.trans hn);exact p
theorem Ju{lo:List Ab}{u j:Nat}{o:Ab}(hj:j<lo.length):Aa (lo.set u o) j=if j=u then o else Aa lo j:=Pg hj
theorem OT{lo:List Ab}{u:Nat}{o:Ab}(h:o.id=(Aa lo u).id)(x:Int):Ge (lo.set u o) x=Ge lo x:=by
 unfold Ge;rw[List.length_set];refine Gp (fun i hi=>?_) x;show(Aa (lo.set u o) i).id=(Aa lo i).id;rw[Ju hi];by_cases e:i=u
 ·rw[if_pos e,h,e]
 ·rw[if_neg e]
theorem Jg{X:Ae}{lo:List Ab}{x k:Int}{u:Nat}(h:Bi X lo x k=some u):u<lo.length/\Ge lo x=some u/\(Aa lo u).id=x/\(Aa lo u).kind=k/\Gh X (Aa lo u).b1 (Aa lo u).c1=true:=by
 obtain⟨h1,hu,h2,h3,h4⟩:=Da h;have e:Aa lo u=lo[u]:=AH hu;exact⟨hu,h1,by rw[e];exact h2,by rw[e];exact h3,by rw[e];exact h4⟩
theorem Un{X:Ae}{lo:List Ab}{x k:Int}{u:Nat}{o:Ab}(h:Bi X lo x k=some u)(e1:o.id=(Aa lo u).id)(e2:o.kind=(Aa lo u).kind)(e3:o.b1=(Aa lo u).b1)(e4:o.c1=(Aa lo u).c1):Bi X (lo.set u o) x k=some u:=by
 obtain⟨hu,h1,_,h3,h4⟩:=Jg h;unfold Bi;rw[OT e1,h1];simp only[];rw[Ju hu,if_pos rfl,e2,e3,e4,h3,h4];simp
def Hl(s:Al)(kind to':Int)(d:ByteArray):Al:=⟨s.th,kind,s.id,to',0,d,0,Am,0,Am⟩
theorem QU(w:World):Am.at w:=⟨Nat.zero_le _,fun h=>absurd h (Nat.lt_irrefl 0)⟩
theorem Lg(s:Al)(kind to':Int)(d:ByteArray)(hd:d.size<=maxLen)(w:World):(Hl s kind to' d).at w:=⟨QU w,QU w,hd⟩
theorem WU{s:Al}{to1 to2:Int}{k1 k2:Int}{d1 d2:ByteArray}(h:(Hl s k1 to1 d1).ok=true)(hi:WG k1=true)(hk:Xn k2=true)(hi2:WG k2=true)(ht:JL to2 (XD k2)=true)(hd:Bm d2 40=true)(hdu:(Md k2||Ha d2)=true)(hc:KU k2 0 (Oq k2)=true):(Hl s k2 to2 d2).ok=true:=by
 unfold Al.ok GD Ef Hl at h ⊢;simp only[Bool.and_eq_true]at h ⊢;obtain⟨⟨⟨⟨⟨⟨⟨⟨⟨⟨a,b⟩,c⟩,d⟩,e⟩,f⟩,g⟩,i⟩,j⟩,k⟩,l⟩:=h;refine⟨⟨⟨⟨⟨⟨⟨⟨⟨⟨hk,b⟩,c⟩,?_⟩,e⟩,?_⟩,hd⟩,hdu⟩,?_⟩,ht⟩,hc⟩
 ·simp[CY,Am]
 ·simp[CY,Am]
 ·rw[hi]at j;rw[hi2];exact j
theorem Nr{ta oa:Option Addr}{ca co:Nat}{lt:List Ae}{lo:List Ab}(ok:okL lt lo=true){x:Int}{j:Nat}(h:Ge lo x=some j):Lz (Cl ta ca oa co lt lo) x=Aa lo j:=by
 have e:On (Cl ta ca oa co lt lo) x=some j:=by
  unfold On;rw[if_pos (show Bo (Cl ta ca oa co lt lo)=true from ok)];exact h
 unfold Lz;rw[e];rfl
theorem QW(lo:List Ab)(j:Nat):(Aa lo j).data=(Aa (lo.map Ab.nm) j).data:=by rw[GM];rfl
section
variable {ta oa ta1 oa1 ta2 oa2:Option Addr}{ca co ca1 co1 ca2 co2:Nat}{lt lt1 lt2:List Ae}{lo lo1 lo2:List Ab}{s:Al}{tx tx2:ByteArray}{c2:Int}
theorem LG(hw:Ep (Cl ta ca oa co lt lo) (Hl s 6 0 s.data) 0 tx lt1 lo1):
 okL lt1 lo1=true/\(Hl s 6 0 s.data).ok=true/\∃(t:Nat) (ht:t<(lt1.map Ae.nm).length) (u:Nat),Pm (lt1.map Ae.nm) s.th=some t/\Bi (lt1.map Ae.nm)[t] (lo1.map Ab.nm) s.id 1=some u/\(Aa (lo1.map Ab.nm) u).data=s.data:=by
 obtain⟨ok,ok1⟩:=hw.right (by decide);obtain⟨so,t,ht,hat,p⟩:=P8 (OV ok hw);rcases YX p rfl with⟨_,e,_⟩|⟨u,hu,⟨_,e,_⟩|⟨_,_,_,e1,e2⟩⟩
 ·cases e
 ·cases e
 ·have ul:=(Jg hu).1;refine⟨ok1,so,t,by rw[e1];exact ht,u,by rw[e1];exact hat,?_,?_⟩
  ·have e3:(lt1.map Ae.nm)[t]'(by rw[e1];exact ht)=(lt.map Ae.nm)[t]:=(by simp only[e1]);rw[e3,e2];exact Un hu rfl rfl rfl rfl
  ·rw[e2,Ju ul,if_pos rfl];rfl
theorem Wr(hw:Ep (Cl ta ca oa co lt lo) (Hl s 6 0 s.data) 0 tx lt1 lo1)(hr:Ep (Cl ta1 ca1 oa1 co1 lt1 lo1) (Hl s 7 0 ⟨#[]⟩) c2 tx2 lt2 lo2):c2=0/\tx2=s.data:=by
 obtain⟨ok1,so,t,ht,u,hat,hu,hd⟩:=LG hw;have so2:(Hl s 7 0 ⟨#[]⟩).ok=true:=WU so rfl rfl rfl rfl (by decide) (by simp[Ha,ByteArray.toList,ByteArray.toList.loop,ByteArray.size]) rfl;rcases YV (Ve (OV ok1 hr) so2 ht hat) rfl with⟨e,_⟩|⟨v,e,h1,h2,_⟩
 ·have e':Bi (lt1.map Ae.nm)[t] (lo1.map Ab.nm) s.id 1=none:=e;rw[hu]at e';cases e'
 ·have e':Bi (lt1.map Ae.nm)[t] (lo1.map Ab.nm) s.id 1=some v:=e;rw[hu]at e';obtain rfl:=Option.some.inj e';exact⟨h1,h2.trans hd⟩
theorem Lf{q:Int}(hw:Ep (Cl ta ca oa co lt lo) (Hl s 6 0 s.data) 0 tx lt1 lo1)(hr:Ep (Cl ta1 ca1 oa1 co1 lt1 lo1) (Hl s 8 q ⟨#[]⟩) 0 tx2 lt2 lo2):(Lz (Cl ta2 ca2 oa2 co2 lt2 lo2) q).data=s.data/\(Lz (Cl ta2 ca2 oa2 co2 lt2 lo2) s.id).data=s.data:=by
 obtain⟨ok1,_,t,ht,u,hat,hu,hd⟩:=LG hw;have ok2:=hr.ok2 ok1;obtain⟨so,t',ht',hat',p⟩:=P8 (OV ok1 hr);obtain rfl:t=t':=Option.some.inj (hat.symm.trans hat');rcases Y8 p rfl with⟨_,e,_⟩|⟨v,e,⟨_,h,_⟩|⟨p',hp,⟨_,h,_⟩|⟨_,_,_,_,_,e2⟩⟩⟩
 ·cases e
 ·cases h
 ·cases h
 ·have e':Bi (lt1.map Ae.nm)[t] (lo1.map Ab.nm) s.id 1=some v:=e;rw[hu]at e';obtain rfl:=Option.some.inj e';obtain⟨ul,ua,_⟩:=Jg hu;obtain⟨pl,_⟩:=Az hp;have hq:Ge lo2 q=some p':=by
   rw[<-Ix,e2];refine(OT ?_ q).trans hp;rfl
  have hi:Ge lo2 s.id=some u:=by
   rw[<-Ix,e2];refine(OT ?_ s.id).trans ua;rfl
  rw[Nr ok2 hq,Nr ok2 hi,QW,QW lo2 u,e2];refine⟨?_,?_⟩
  ·rw[Ju pl,if_pos rfl];exact hd
  ·rw[Ju ul];by_cases h:u=p'
   ·rw[if_pos h];exact hd
   ·rw[if_neg h];exact hd
end
open Go.BigFrame Go.Shelf
theorem S9(v:Value)(W:World):(method 395 199 (.agg #[v]) "loop.example/g00272/impl.takes").run prog W= .ok (250,.agg #[v]) W:=by kernel_rfl
theorem Ur(v:Value)(W:World):(nilAhead 395 199 (.agg #[v]) "loop.example/g00272/impl.takes").run prog W= .ok (some false) W:=by kernel_rfl
theorem TD(v:Value)(W:World):(method 395 199 (.agg #[v]) "loop.example/g00272/impl.label").run prog W= .ok (172,.agg #[v]) W:=by kernel_rfl
theorem Tm(v:Value)(W:World):(method 395 201 (.agg #[v]) "loop.example/g00272/impl.takes").run prog W= .ok (251,.agg #[v]) W:=by kernel_rfl
theorem Tg(v:Value)(W:World):(nilAhead 395 201 (.agg #[v]) "loop.example/g00272/impl.takes").run prog W= .ok (some false) W:=by kernel_rfl
theorem Tk(v:Value)(W:World):(method 395 201 (.agg #[v]) "loop.example/g00272/impl.label").run prog W= .ok (172,.agg #[v]) W:=by kernel_rfl
theorem TR(v:Value)(W:World):(method 395 203 (.agg #[v]) "loop.example/g00272/impl.takes").run prog W= .ok (252,.agg #[v]) W:=by kernel_rfl
theorem TZ(v:Value)(W:World):(nilAhead 395 203 (.agg #[v]) "loop.example/g00272/impl.takes").run prog W= .ok (some false) W:=by kernel_rfl
theorem Tp(v:Value)(W:World):(method 395 203 (.agg #[v]) "loop.example/g00272/impl.label").run prog W= .ok (172,.agg #[v]) W:=by kernel_rfl
theorem Te(v:Value)(W:World):(method 395 205 (.agg #[v]) "loop.example/g00272/impl.takes").run prog W= .ok (253,.agg #[v]) W:=by kernel_rfl
theorem Uc(v:Value)(W:World):(nilAhead 395 205 (.agg #[v]) "loop.example/g00272/impl.takes").run prog W= .ok (some false) W:=by kernel_rfl
theorem Tv(v:Value)(W:World):(method 395 205 (.agg #[v]) "loop.example/g00272/impl.label").run prog W= .ok (172,.agg #[v]) W:=by kernel_rfl
theorem Jn{ops:Array Oper}{o:Oper}{a:Act}{w:World}{K:Act->World->Prop}{Q:Exit->Act->World->Prop}{E:Prop}(hw:Region.wanted o (yielded ops a.tmps)=true)(x:Operand)(nm:String)(ats:Array TypeId)
 (ho:o.op= .call {callee:= .invoke x nm,args:=#[],argTypes:=ats})(T:TypeId)(v r:Value)(f:Nat)(hv:a.eval x= .iface T v)(hm:∀W,(method 395 T v nm).run prog W= .ok (f,r) W)(eg:∀args w,(callFunc f args).run prog w= .ok (.enter f args) w)
 (d:Option Nat)(hd:o.dst=d)(R:Value->World->Prop)(hc:Calls prog f #[r] w fun e w'=>∃v,e= .returned v/\R v w')(h:∀v w',R v w'->K (a.put d v) w'):
 if Region.wanted o (yielded ops a.tmps)=true then Oper.wp prog o a w K Q else E:=by
 rw[if_pos hw];have e:(execOp a.eval o).run prog w= .ok (.enter f #[r]) w:=by
  unfold execOp;simp only[ho,resolve,invoke,callMethod,Sem.run_bind,List.map_toArray,List.map_nil,hv];simp[go_sem,hm,eg]
 unfold Oper.wp;rw[e,Oper.upon_enter];exact hc.mono fun e w' ⟨v,he,hr⟩=>by subst he;rw[hd];exact h v w' hr
theorem Oy{ops:Array Oper}{o:Oper}{a:Act}{w:World}{K:Act->World->Prop}{Q:Exit->Act->World->Prop}{E:Prop}(hw:Region.wanted o (yielded ops a.tmps)=true)(x y:Operand)(nm:String)(ats:Array TypeId)
 (ho:o.op= .call {callee:= .invoke x nm,args:=#[y],argTypes:=ats})(T:TypeId)(v r:Value)(f:Nat)(hv:a.eval x= .iface T v)(hm:∀W,(method 395 T v nm).run prog W= .ok (f,r) W)(eg:∀args w,(callFunc f args).run prog w= .ok (.enter f args) w)(v1:Value)(hv1:a.eval y=v1)
 (d:Option Nat)(hd:o.dst=d)(R:Value->World->Prop)(hc:Calls prog f #[r,v1] w fun e w'=>∃v,e= .returned v/\R v w')(h:∀v w',R v w'->K (a.put d v) w'):
 if Region.wanted o (yielded ops a.tmps)=true then Oper.wp prog o a w K Q else E:=by
 rw[if_pos hw];have e:(execOp a.eval o).run prog w= .ok (.enter f #[r,v1]) w:=by
  unfold execOp;simp only[ho,resolve,invoke,callMethod,Sem.run_bind,List.map_toArray,List.map_cons,List.map_nil,hv,hv1];simp[go_sem,hm,eg]
 unfold Oper.wp;rw[e,Oper.upon_enter];exact hc.mono fun e w' ⟨v,he,hr⟩=>by subst he;rw[hd];exact h v w' hr
theorem Q6{X:Ae}{s:Al}{lt:List Ae}{lo:List Ab}{t:Nat}(hk:s.kind=6∨s.kind=7∨s.kind=8∨s.kind=9∨s.kind=10∨s.kind=13∨s.kind=15)(h:Bi X lo s.id (GN s.kind)=none):FJ X s lt lo t 4 ⟨#[]⟩ lt lo:=by
 rcases hk with hk|hk|hk|hk|hk|hk|hk
 ·exact .k6 hk (.inl ⟨by rw[hk]at h;exact h,rfl,rfl,rfl,rfl⟩)
 ·exact .k7 hk (.inl ⟨by rw[hk]at h;exact h,rfl,rfl,rfl,rfl⟩)
 ·exact .k8 hk (.inl ⟨by rw[hk]at h;exact h,rfl,rfl,rfl,rfl⟩)
 ·exact .k9 hk (.inl ⟨by rw[hk]at h;exact h,rfl,rfl,rfl,rfl⟩)
 ·exact .k10 hk (.inl ⟨by rw[hk]at h;exact h,rfl,rfl,rfl,rfl⟩)
 ·exact .k13 hk (.inl ⟨by rw[hk]at h;exact h,rfl,rfl,rfl,rfl⟩)
 ·exact .k15 hk (.inl ⟨by rw[hk]at h;exact h,rfl,rfl,rfl,rfl⟩)
theorem X8{X:Ae}{s:Al}{lt:List Ae}{lo:List Ab}{t u:Nat}(hk:s.kind=6∨s.kind=9∨s.kind=10)(h:Bi X lo s.id (GN s.kind)=some u)(hc:Ap X (Aa lo u).b1 (Aa lo u).c1=false):FJ X s lt lo t 4 ⟨#[]⟩ lt lo:=by
 rcases hk with hk|hk|hk
 ·exact .k6 hk (.inr ⟨u,by rw[hk]at h;exact h,.inl ⟨hc,rfl,rfl,rfl,rfl⟩⟩)
 ·exact .k9 hk (.inr ⟨u,by rw[hk]at h;exact h,.inl ⟨hc,rfl,rfl,rfl,rfl⟩⟩)
 ·exact .k10 hk (.inr ⟨u,by rw[hk]at h;exact h,.inl ⟨hc,rfl,rfl,rfl,rfl⟩⟩)
def Kd(s:Al)(kd:Int)(T f:Nat)(tk:Bool):Prop:=
 (kd=1/\T=199/\f=250/\tk=(s.kind==6||s.kind==7||s.kind==8))∨(kd=2/\T=201/\f=251/\tk=(s.kind==9||s.kind==10))∨(kd=3/\T=203/\f=252/\tk=(s.kind==15))∨(kd=4/\T=205/\f=253/\tk=(s.kind==13))
theorem Yj{s:Al}{o:Ab}(h:KH o):∃T f tk,Fx o.kind=T/\Kd s o.kind T f tk:=by
 have hk:=h.kind;unfold Gt at hk;by_cases h1:o.kind=1
 ·exact⟨_,_,_,by rw[h1];rfl,.inl ⟨h1,rfl,rfl,rfl⟩⟩
 ·by_cases h2:o.kind=2
  ·exact⟨_,_,_,by rw[h2];rfl,.inr (.inl ⟨h2,rfl,rfl,rfl⟩)⟩
  ·by_cases h3:o.kind=3
   ·exact⟨_,_,_,by rw[h3];rfl,.inr (.inr (.inl ⟨h3,rfl,rfl,rfl⟩))⟩
   ·by_cases h4:o.kind=4
    ·exact⟨_,_,_,by rw[h4];rfl,.inr (.inr (.inr ⟨h4,rfl,rfl,rfl⟩))⟩
    ·rw[if_neg h1,if_neg h2,if_neg h3,if_neg h4]at hk;cases hk
theorem Kd.meth{s:Al}{kd:Int}{T f:Nat}{tk:Bool}(h:Kd s kd T f tk)(v:Value):(∀W,(method 395 T (.agg #[v]) "loop.example/g00272/impl.takes").run prog W= .ok (f,.agg #[v]) W)/\(∀W,(method 395 T (.agg #[v]) "loop.example/g00272/impl.label").run prog W= .ok (172,.agg #[v]) W)/\(∀args w,(callFunc f args).run prog w= .ok (.enter f args) w)/\(∀W,Calls prog f #[.agg #[v],s.kind] W fun e w'=>∃r,e= .returned r/\(r= .bool tk/\Below W W w'))/\(∀W,(nilAhead 395 T (.agg #[v]) "loop.example/g00272/impl.takes").run prog W= .ok (some false) W):=by
 rcases h with⟨_,rfl,rfl,rfl⟩|⟨_,rfl,rfl,rfl⟩|⟨_,rfl,rfl,rfl⟩|⟨_,rfl,rfl,rfl⟩
 ·exact⟨S9 v,TD v,enters_of func250 (by kernel_rfl) rfl,fun W=>(Jf v s.kind W).mono fun _ _ h=>⟨_,h.1,rfl,h.2⟩,Ur v⟩
 ·exact⟨Tm v,Tk v,enters_of func251 (by kernel_rfl) rfl,fun W=>(KQ v s.kind W).mono fun _ _ h=>⟨_,h.1,rfl,h.2⟩,Tg v⟩
 ·exact⟨TR v,Tp v,enters_of func252 (by kernel_rfl) rfl,fun W=>(MN v s.kind W).mono fun _ _ h=>⟨_,h.1,rfl,h.2⟩,TZ v⟩
 ·exact⟨Te v,Tv v,enters_of func253 (by kernel_rfl) rfl,fun W=>(Lk v s.kind W).mono fun _ _ h=>⟨_,h.1,rfl,h.2⟩,Uc v⟩
theorem Kd.no{s:Al}{kd:Int}{T f:Nat}(h:Kd s kd T f false)(hk:s.kind=6∨s.kind=7∨s.kind=8∨s.kind=9∨s.kind=10∨s.kind=13∨s.kind=15):kd≠GN s.kind:=by
 unfold Kd at h;rcases hk with hk|hk|hk|hk|hk|hk|hk<;>rw[hk]at h ⊢ <;>rcases h with⟨rfl,_,_,h⟩|⟨rfl,_,_,h⟩|⟨rfl,_,_,h⟩|⟨rfl,_,_,h⟩<;>revert h<;>decide
theorem Kd.yes{s:Al}{kd:Int}{T f:Nat}(h:Kd s kd T f true)(hk:s.kind=6∨s.kind=7∨s.kind=8∨s.kind=9∨s.kind=10∨s.kind=13∨s.kind=15):kd=GN s.kind:=by
 unfold Kd at h;rcases hk with hk|hk|hk|hk|hk|hk|hk<;>rw[hk]at h ⊢ <;>rcases h with⟨rfl,_,_,h⟩|⟨rfl,_,_,h⟩|⟨rfl,_,_,h⟩|⟨rfl,_,_,h⟩<;>revert h<;>decide
section
variable {E:Nat->Addr}{w:World}{B P:Nat}{s:Al}{g ca q co:Nat}{lt:List Ae}{lo:List Ab}{t c C:Nat}{nb:Nat->Nat}{kv:Nat->Value}{K:Nat->List Int}{X:Ae}
theorem Wg(v:Env E w B P s g ca q co lt lo t c C nb kv K X)(hk:s.kind=6∨s.kind=7∨s.kind=8∨s.kind=9∨s.kind=10∨s.kind=13∨s.kind=15):
 Calls prog 109 #[.pointer (some ⟨P,0,none⟩)] w fun e w'=>∃tx r,e= .returned (.tuple #[.string tx,r])/\Jj E B P s lt lo t X (.map (some c)) w w' tx r:=by
 have VV:=hid v;obtain⟨⟨k0,k1,k2,k3,k4,k5,k6,k7,k8,k9⟩,k10,k11,k12,k13⟩:=v.h.wk.work;have TH:=hid (Kr w B P s g ca q co lt lo t c C lo.length _ nb kv K v.h v.n (Nat.le_refl _) (Cz v.ok) s.id (Zm (Lo v.so)));have HK:=hid hk;clear v hk;go_enter func109,ntmps109
 go_wp2_with fail
 refine TH.out.mono ?_;rintro e w1 ⟨hr,b1⟩;have A1:=hid b1;clear TH b1 k0 k1 k2 k3 k4 k5 k6 k7 k8 k9 k10 k11 k12 k13;rcases hr with⟨hf,rfl⟩|⟨u,hf,rfl⟩
 ·have AN:Hid (FJ X s lt lo t 4 ⟨#[]⟩ lt lo):=hid (Q6 HK (by unfold Bi;rw[show Ge lo s.id=none from hf]));clear hf;have D0:=hid (Below.refl w1 w1).drew;have A2:=hid (Ag A1 D0);go_upto_region 2 with fail
  refine An 16 (fun W=>Below w1 w1 W) (by kernel_rfl) ?_;refine tq 0 17 (.nilIface) D0 ?_;simp only[ap,List.set];refine tq 1 18 (.bool true) D0 ?_;simp only[ap,List.set];refine tq 2 19 (.bool true) D0 ?_;simp only[ap,List.set];refine Nx 11 [(3,20),(4,21),(5,22),(6,23),(7,24),(8,25),(9,26),(10,27),(11,28),(12,29),(13,30)] rfl (by kernel_rfl) D0 ?_;simp only[Eg,ap,List.set];refine tq 14 31 (.bool true) D0 ?_;simp only[ap,List.set];refine tq 15 16 (.bool true) D0 ?_;simp only[ap,List.set];refine Ak (by kernel_rfl) ?_ _;have e9:=((VV.out.below A2).e 6 (by omega) (by omega)).1;have sz:=(VV.out.below A2).hB;go_wp2_with fail
  refine(DK 264 (.pointer (some (E 6))) _).mono ?_;rintro e w9 ⟨rfl,rfl⟩;go_wp2;go_ret2;have b3:=Ag A2 ((Below.refl _ _).alloc (Nat.le_refl _) (.cells #[.int .i64 4,.iface 264 (.pointer (some (E 6)))] 71));exact⟨_,_,rfl,.no (.of (VV.out.below b3).h.wk) (b3.mono VV.out.hB) (E7 _ E sz 4 (by decide) 6 (by decide) (by decide) (by decide) (by first|rfl|simp)) (by decide) (AN)⟩
 ·obtain⟨ul,_⟩:=Az hf;have HF:Hid (Ge lo s.id=some u):=hid hf;obtain⟨T,f,tk,et,HKd⟩:=Yj (s:=s) (VV.out.obj ul);rw[et];have KD:=hid HKd;obtain⟨MT,ML,EN,TK,NA⟩:=HKd.meth (.pointer (some ⟨q,u*10,none⟩));have HNA:=hid NA;have HMT:=hid MT;have HML:=hid ML;have HEN:=hid EN;have HTK:=hid TK;clear hf et HKd MT ML EN TK NA;have EL:Hid (∀args w,(callFunc 172 args).run prog w= .ok (.enter 172 args) w):=hid (enters_of func172 (by kernel_rfl) rfl);have ES:Hid (∀args w,(callFunc 24 args).run prog w= .ok (.enter 24 args) w):=hid (enters_of func24 (by kernel_rfl) rfl);have EC:Hid (∀args w,(callFunc 22 args).run prog w= .ok (.enter 22 args) w):=hid (enters_of func22 (by kernel_rfl) rfl);have EW:Hid (∀args w,(callFunc 150 args).run prog w= .ok (.enter 150 args) w):=hid (enters_of func150 (by kernel_rfl) rfl);have BX:Hid (∀W,Below w1 w1 W->Ah W P (.cells (Ky s g lt.length ca q lo.length co t (.map (some c))) 117)/\FH W g (t*7) X):=hid (fun W hW=>by
   have V:=VV.out.below (Ag A1 hW);have C:=(V.h.st.cell7 V.ht).1;rw[<-V.hX]at C;exact⟨V.h.wk,C⟩)
  have n1:Na #[.pointer (some ⟨q,u*10,none⟩)]:=⟨⟩;have PL:Hid (∀W,Below w1 w1 W->Calls prog 172 #[.agg n1] W fun e w'=>∃v,e= .returned v/\(v= .agg #[.int .i64 (Aa lo u).b1,.slice (Aa lo u).c1.a (Aa lo u).c1.n (Aa lo u).c1.k]/\Below W W w')):=hid (fun W hW=>by
   have V:=VV.out.below (Ag A1 hW);obtain⟨CO,ql⟩:=V.h.st.cell10 ul (Cz V.ok);rw[<-AH ul]at CO;exact(NF q (u*10) (Aa lo u).b1 (Aa lo u).c1 W ql CO.c3 CO.c4).mono fun _ _ h=>⟨_,h.1,rfl,h.2⟩)
  have D0:=hid (Below.refl w1 w1).drew;go_upto_region 2 with fail
  refine An 16 (fun W=>Below w1 w1 W) (by kernel_rfl) ?_;refine tq 0 17 (.iface T (.agg n1)) D0 ?_;simp only[ap,List.set];refine tq 1 18 (.bool false) D0 ?_;simp only[ap,List.set];refine tq 2 19 (.bool false) D0 ?_;simp only[ap,List.set];refine tq 3 20 (.iface T (.agg n1)) D0 ?_;simp only[ap,List.set];have n2:Nv (.pointer (some ⟨P,0,none⟩)):=⟨⟩;refine tq 4 21 n2 D0 ?_;simp only[ap,List.set];refine tq 5 22 n2 D0 ?_;simp only[ap,List.set];refine tq 6 23 n2 D0 ?_;simp only[ap,List.set];have n6:Nv (.pointer (some ⟨P,1,none⟩)):=⟨⟩;refine tq 7 24 n6 D0 ?_;simp only[ap,List.set];refine tq 8 25 (.int .i64 s.kind) D0 ?_ (hy:=fun W h=>by obtain⟨⟨k0,k1,k2,k3,k4,k5,k6,k7,k8,k9⟩,k10,k11,k12,k13⟩:=(BX W h).1.work;go_simp);simp only[ap,List.set];refine tq 9 26 (.func (.method "loop.example/g00272/impl.takes") #[(.iface T (.agg n1))] #[]) D0 ?_;simp only[ap,List.set];refine tq 10 27 (.func (.method "loop.example/g00272/impl.takes") #[(.iface T (.agg n1))] #[]) D0 ?_ (hy:=fun W h=>by have y:=HNA.out W;go_simp);simp only[ap,List.set];refine tq 11 28 (.iface T (.agg n1)) D0 ?_;simp only[ap,List.set];refine Ac (i:=12) (by kernel_rfl) rfl ?_;intro K hK;refine Oy (by rfl) _ _ _ _ (by rfl) T _ _ f (by rfl) HMT HEN _ (by rfl) (some 29) (by rfl) _ (HTK _) ?_;rintro v w2 ⟨rfl,b2⟩;have V1:=hid (Ag D0 b2);refine hK _ _ (fun _=>V1) ?_;clear hK K b2;simp only[ap,List.set];refine tq 13 30 (.bool (!tk)) V1 ?_;simp only[ap,List.set];refine tq 14 31 (.bool (!tk)) V1 ?_;simp only[ap,List.set];refine tq 15 16 (.bool (!tk)) V1 ?_;simp only[ap,List.set];refine Ak (by kernel_rfl) ?_ _;have A2:=hid (Ag A1 V1);cases tk with
  |false=>
   have AN:Hid (FJ X s lt lo t 4 ⟨#[]⟩ lt lo):=hid (Q6 HK (by unfold Bi;rw[HF.out];simp only;rw[if_neg (by simp[KD.out.no HK.out])]));have e9:=((VV.out.below A2).e 6 (by omega) (by omega)).1;have sz:=(VV.out.below A2).hB;go_wp2_with fail
   refine(DK 264 (.pointer (some (E 6))) _).mono ?_;rintro e w9 ⟨rfl,rfl⟩;go_wp2;go_ret2;have b3:=Ag A2 ((Below.refl _ _).alloc (Nat.le_refl _) (.cells #[.int .i64 4,.iface 264 (.pointer (some (E 6)))] 71));exact⟨_,_,rfl,.no (.of (VV.out.below b3).h.wk) (b3.mono VV.out.hB) (E7 _ E sz 4 (by decide) 6 (by decide) (by decide) (by decide) (by first|rfl|simp)) (by decide) (AN)⟩
  |true=>
   have HW:=hid (KD.out.yes HK);go_upto_region 4 with fail
   have D1:=hid V1.out.drew;refine An 11 (fun W=>Below w1 w1 W) (by kernel_rfl) ?_;refine tq 0 35 n2 D1 ?_;simp only[ap,List.set];refine tq 1 36 n2 D1 ?_;simp only[ap,List.set];have n5:Nv (.pointer (some ⟨P,12,none⟩)):=⟨⟩;refine tq 2 37 n5 D1 ?_;simp only[ap,List.set];have n4:Nv (.pointer (some ⟨g,t*7,none⟩)):=⟨⟩;refine tq 3 38 n4 D1 ?_ (hy:=fun W h=>by obtain⟨⟨k0,k1,k2,k3,k4,k5,k6,k7,k8,k9⟩,k10,k11,k12,k13⟩:=(BX W h).1.work;go_simp);simp only[ap,List.set];refine tq 4 39 n4 D1 ?_;simp only[ap,List.set];have n3:Nv (.agg #[X.id,X.b1,.slice X.c1.a X.c1.n X.c1.k,X.b2,.slice X.c2.a X.c2.n X.c2.k,.slice X.own.a X.own.n X.own.k,X.made]):=⟨⟩;refine tq 5 40 n3 D1 ?_ (hy:=fun W h=>by have C:=(BX W h).2;have y0:=C.c0;have y1:=C.c1;have y2:W.cell? ⟨g,t*7+2,none⟩=some (.slice X.c1.a X.c1.n X.c1.k):=C.c2;have y3:=C.c3;have y4:W.cell? ⟨g,t*7+4,none⟩=some (.slice X.c2.a X.c2.n X.c2.k):=C.c4;have y5:W.cell? ⟨g,t*7+5,none⟩=some (.slice X.own.a X.own.n X.own.k):=C.c5;have y6:=C.c6;go_simp);simp only[ap,List.set];refine tq 6 41 (.iface T (.agg n1)) D1 ?_;simp only[ap,List.set];refine Ac (i:=7) (by kernel_rfl) rfl ?_;intro K hK;refine Jn (by rfl) _ _ _ (by rfl) T _ _ _ (by rfl) HML EL (some 42) (by rfl) _ (PL _ D1) ?_;rintro v w3 ⟨rfl,b3⟩;have V2:=hid (Ag D1 b3);refine hK _ _ (fun _=>V2) ?_;clear hK K b3;simp only[ap,List.set];have PS:=hid (Ed (VV.out.sees u ul _ (Ag A1 V2)));refine Ac (i:=8) (by kernel_rfl) rfl ?_;intro K hK;refine Ax (by rfl) 24 _ _ _ (by rfl) ES _ _ (by rfl) (by rfl) (some 43) (by rfl) _ PS ?_;rintro v w4 ⟨rfl,b4⟩;have V3:=hid (Ag V2 b4);refine hK _ _ (fun _=>V3) ?_;clear hK K b4 PS;simp only[ap,List.set];refine tq 9 44 (.bool (!Gh X (Aa lo u).b1 (Aa lo u).c1)) V3 ?_;simp only[ap,List.set];refine tq 10 34 (.bool (!Gh X (Aa lo u).b1 (Aa lo u).c1)) V3 ?_;simp only[ap,List.set];refine Ak (by kernel_rfl) ?_ _;have A3:=hid (Ag A1 V3);cases hs:Gh X (Aa lo u).b1 (Aa lo u).c1 with
   |false=>
    have AN:Hid (FJ X s lt lo t 4 ⟨#[]⟩ lt lo):=hid (Q6 HK (by unfold Bi;rw[HF.out];simp only;rw[if_neg (by simp[hs])]));clear hs;have e9:=((VV.out.below A3).e 11 (by omega) (by omega)).1;have sz:=(VV.out.below A3).hB;go_wp2_with fail
    refine(DK 264 (.pointer (some (E 11))) _).mono ?_;rintro e w9 ⟨rfl,rfl⟩;go_wp2;go_ret2;have b3:=Ag A3 ((Below.refl _ _).alloc (Nat.le_refl _) (.cells #[.int .i64 4,.iface 264 (.pointer (some (E 11)))] 71));exact⟨_,_,rfl,.no (.of (VV.out.below b3).h.wk) (b3.mono VV.out.hB) (E7 _ E sz 4 (by decide) 11 (by decide) (by decide) (by decide) (by first|rfl|simp)) (by decide) (AN)⟩
   |true=>
    have HU:Hid (Bi X lo s.id (GN s.kind)=some u):=hid (by unfold Bi;rw[HF.out];simp only;rw[if_pos (by simp[hs,HW.out])]);clear hs;have V2:=V3;clear V1;go_upto_region 6 with fail
    have D2:=hid V2.out.drew;have PW:Hid (Calls prog 150 #[s.kind] w4.drew fun e w'=>∃v,e= .returned v/\(v= .bool (s.kind==6||s.kind==9||s.kind==10)/\Below w4.drew.heap.size w4.drew w')):=hid ((RJ s.kind w4.drew).mono fun _ _ h=>⟨_,h.1,rfl,h.2⟩);refine An 19 (fun W=>Below w1 w1 W) (by kernel_rfl) ?_;refine tq 0 48 n2 D2 ?_;simp only[ap,List.set];refine tq 1 49 n2 D2 ?_;simp only[ap,List.set];refine tq 2 50 n2 D2 ?_;simp only[ap,List.set];refine tq 3 51 n6 D2 ?_;simp only[ap,List.set];refine tq 4 52 (.int .i64 s.kind) D2 ?_ (hy:=fun W h=>by obtain⟨⟨k0,k1,k2,k3,k4,k5,k6,k7,k8,k9⟩,k10,k11,k12,k13⟩:=(BX W h).1.work;go_simp);simp only[ap,List.set];refine Ac (i:=5) (by kernel_rfl) rfl ?_;intro K hK;refine Ba (by rfl) 150 _ _ (by rfl) EW _ (by rfl) (some 53) (by rfl) _ PW ?_;rintro v w5 ⟨rfl,b5⟩;have V3:=hid (Ag D2 b5);refine hK _ _ (fun _=>V3) ?_;clear hK K b5 PW;simp only[ap,List.set];refine tq 6 54 (.bool (s.kind==6||s.kind==9||s.kind==10)) V3 ?_;simp only[ap,List.set];cases hw:(s.kind==6||s.kind==9||s.kind==10)with
    |false=>
     refine Nx 10 [(7,55),(8,56),(9,57),(10,58),(11,59),(12,60),(13,61),(14,62),(15,63),(16,64)] rfl (by kernel_rfl) V3 ?_;simp only[Eg,ap,List.set];refine tq 17 65 (.bool false) V3 ?_;simp only[ap,List.set];refine tq 18 47 (.bool false) V3 ?_;simp only[ap,List.set];refine Ak (by kernel_rfl) ?_ _;have A4:=hid (Ag A1 V3);have NW:=hid hw;clear hw;rcases KD with⟨_,rfl,rfl,hq⟩|⟨_,rfl,rfl,hq⟩|⟨_,rfl,rfl,hq⟩|⟨_,rfl,rfl,hq⟩
     ·have HQ0:s.kind=7∨s.kind=8:=by
       have nw:=NW.out;have hq':(s.kind=6∨s.kind=7)∨s.kind=8:=(by simpa[Bool.or_eq_true]using hq.symm);rcases hq' with(h|h)|h
       ·exfalso;rw[h]at nw;revert nw;decide
       ·exact .inl h
       ·exact .inr h
      have HQ:=hid HQ0;clear hq HQ0;have eW:GN s.kind=1:=(by(rcases HQ with h|h<;>rw[h]<;>decide));have HU2:Hid (Bi X lo s.id 1=some u):=hid (by rw[<-eW];exact HU.out);clear eW;have a0:=Po 194 (.agg n1) w5;have A5:=hid (Ag A4 ((Below.refl _ w5).alloc (Nat.le_refl _) (.cells n1 199)));have CC:=hid (Yo (VV.out.below A5) HU2 (.inr HQ));go_wp2_with fail
      refine CC.out.mono ?_;rintro e w9 ⟨tx,r,rfl,rp⟩;have RP:=hid (rp.from (A5.out.mono VV.out.hB));clear rp;go_wp2;go_ret2;exact⟨_,_,rfl,RP⟩
     ·exfalso;have nw:=NW.out;have hq':s.kind=9∨s.kind=10:=(by simpa[Bool.or_eq_true]using hq.symm);rcases hq' with h|h<;>rw[h]at nw<;>revert nw<;>decide
     ·have HQ0:s.kind=15:=by
       simpa using hq.symm
      have HQ:=hid HQ0;clear hq HQ0;have eW:GN s.kind=3:=(by(rw[HQ.out];decide));have HU2:Hid (Bi X lo s.id 3=some u):=hid (by rw[<-eW];exact HU.out);clear eW;have a0:=OJ 194 203 (.agg n1) w5 (by decide);have a1:=Vl 194 203 (.agg n1) w5 (by decide);have a2:=Xg 194 (.agg n1) w5;have A5:=hid (Ag A4 ((Below.refl _ w5).alloc (Nat.le_refl _) (.cells n1 203)));have CC:=hid (YU (VV.out.below A5) HU2 HQ);go_wp2_with fail
      refine CC.out.mono ?_;rintro e w9 ⟨tx,rfl,rp⟩;have RP:=hid (rp.from (A5.out.mono VV.out.hB));clear rp;go_wp2;go_ret2;exact⟨_,_,rfl,RP⟩
     ·have HQ0:s.kind=13:=by
       simpa using hq.symm
      have HQ:=hid HQ0;clear hq HQ0;have eW:GN s.kind=4:=(by(rw[HQ.out];decide));have HU2:Hid (Bi X lo s.id 4=some u):=hid (by rw[<-eW];exact HU.out);clear eW;have a0:=OJ 194 205 (.agg n1) w5 (by decide);have a1:=Vl 194 205 (.agg n1) w5 (by decide);have a2:=XG 194 205 (.agg n1) w5 (by decide);have a3:=WP 194 (.agg n1) w5;have A5:=hid (Ag A4 ((Below.refl _ w5).alloc (Nat.le_refl _) (.cells n1 205)));have CC:=hid (Zb (VV.out.below A5) HU2 HQ);go_wp2_with fail
      refine CC.out.mono ?_;rintro e w9 ⟨r,rfl,rp⟩;have RP:=hid (rp.from (A5.out.mono VV.out.hB));clear rp;go_wp2;go_ret2;exact⟨_,_,rfl,RP⟩
    |true=>
     refine tq 7 55 n2 V3 ?_;simp only[ap,List.set];refine tq 8 56 n2 V3 ?_;simp only[ap,List.set];refine tq 9 57 n5 V3 ?_;simp only[ap,List.set];refine tq 10 58 n4 V3 ?_ (hy:=fun W h=>by obtain⟨⟨k0,k1,k2,k3,k4,k5,k6,k7,k8,k9⟩,k10,k11,k12,k13⟩:=(BX W h).1.work;go_simp);simp only[ap,List.set];refine tq 11 59 n4 V3 ?_;simp only[ap,List.set];refine tq 12 60 n3 V3 ?_ (hy:=fun W h=>by have C:=(BX W h).2;have y0:=C.c0;have y1:=C.c1;have y2:W.cell? ⟨g,t*7+2,none⟩=some (.slice X.c1.a X.c1.n X.c1.k):=C.c2;have y3:=C.c3;have y4:W.cell? ⟨g,t*7+4,none⟩=some (.slice X.c2.a X.c2.n X.c2.k):=C.c4;have y5:W.cell? ⟨g,t*7+5,none⟩=some (.slice X.own.a X.own.n X.own.k):=C.c5;have y6:=C.c6;go_simp);simp only[ap,List.set];refine tq 13 61 (.iface T (.agg n1)) V3 ?_;simp only[ap,List.set];refine Ac (i:=14) (by kernel_rfl) rfl ?_;intro K hK;refine Jn (by rfl) _ _ _ (by rfl) T _ _ _ (by rfl) HML EL (some 62) (by rfl) _ (PL _ V3) ?_;rintro v w6 ⟨rfl,b6⟩;have V4:=hid (Ag V3 b6);refine hK _ _ (fun _=>V4) ?_;clear hK K b6;simp only[ap,List.set];have PS:=hid (Ed (VV.out.changes u ul _ (Ag A1 V4)));refine Ac (i:=15) (by kernel_rfl) rfl ?_;intro K hK;refine Ax (by rfl) 22 _ _ _ (by rfl) EC _ _ (by rfl) (by rfl) (some 63) (by rfl) _ PS ?_;rintro v w7 ⟨rfl,b7⟩;have V5:=hid (Ag V4 b7);refine hK _ _ (fun _=>V5) ?_;clear hK K b7 PS;simp only[ap,List.set];refine tq 16 64 (.bool (!Ap X (Aa lo u).b1 (Aa lo u).c1)) V5 ?_;simp only[ap,List.set];refine tq 17 65 (.bool (!Ap X (Aa lo u).b1 (Aa lo u).c1)) V5 ?_;simp only[ap,List.set];refine tq 18 47 (.bool (!Ap X (Aa lo u).b1 (Aa lo u).c1)) V5 ?_;simp only[ap,List.set];refine Ak (by kernel_rfl) ?_ _;have A4:=hid (Ag A1 V5);have KW:Hid (s.kind=6∨s.kind=9∨s.kind=10):=hid (by simpa[Bool.or_eq_true,or_assoc]using hw);clear hw;cases hc:Ap X (Aa lo u).b1 (Aa lo u).c1 with
     |false=>
      have AN:Hid (FJ X s lt lo t 4 ⟨#[]⟩ lt lo):=hid (X8 KW HU hc);clear hc;have e9:=((VV.out.below A4).e 8 (by omega) (by omega)).1;have sz:=(VV.out.below A4).hB;go_wp2_with fail
      refine(DK 264 (.pointer (some (E 8))) _).mono ?_;rintro e w9 ⟨rfl,rfl⟩;go_wp2;go_ret2;have b3:=Ag A4 ((Below.refl _ _).alloc (Nat.le_refl _) (.cells #[.int .i64 4,.iface 264 (.pointer (some (E 8)))] 71));exact⟨_,_,rfl,.no (.of (VV.out.below b3).h.wk) (b3.mono VV.out.hB) (E7 _ E sz 4 (by decide) 8 (by decide) (by decide) (by decide) (by first|rfl|simp)) (by decide) (AN)⟩
     |true=>
      have HC:=hid hc;clear hc;rcases KD with⟨_,rfl,rfl,hq⟩|⟨_,rfl,rfl,hq⟩|⟨_,rfl,rfl,hq⟩|⟨_,rfl,rfl,hq⟩
      ·have HQ0:s.kind=6:=by
        rcases KW with h|h|h<;>first|exact h|exact .inl h|exact .inr h|(exfalso;rw[h]at hq;revert hq;decide)
       have HQ:=hid HQ0;clear hq HQ0;have eW:GN s.kind=1:=(by(rw[HQ.out];decide));have HU2:Hid (Bi X lo s.id 1=some u):=hid (by rw[<-eW];exact HU.out);clear eW;have a0:=Po 194 (.agg n1) w7;have A5:=hid (Ag A4 ((Below.refl _ w7).alloc (Nat.le_refl _) (.cells n1 199)));have CC:=hid (Yo (VV.out.below A5) HU2 (.inl ⟨HQ,HC⟩));go_wp2_with fail
       refine CC.out.mono ?_;rintro e w9 ⟨tx,r,rfl,rp⟩;have RP:=hid (rp.from (A5.out.mono VV.out.hB));clear rp;go_wp2;go_ret2;exact⟨_,_,rfl,RP⟩
      ·have HQ0:s.kind=9∨s.kind=10:=by
        rcases KW with h|h|h<;>first|exact h|exact .inl h|exact .inr h|(exfalso;rw[h]at hq;revert hq;decide)
       have HQ:=hid HQ0;clear hq HQ0;have eW:GN s.kind=2:=(by(rcases HQ with h|h<;>rw[h]<;>decide));have HU2:Hid (Bi X lo s.id 2=some u):=hid (by rw[<-eW];exact HU.out);clear eW;have a0:=OJ 194 201 (.agg n1) w7 (by decide);have a1:=WJ 194 (.agg n1) w7;have A5:=hid (Ag A4 ((Below.refl _ w7).alloc (Nat.le_refl _) (.cells n1 201)));have CC:=hid (YZ (VV.out.below A5) HU2 HC HQ);go_wp2_with fail
       refine CC.out.mono ?_;rintro e w9 ⟨tx,r,rfl,rp⟩;have RP:=hid (rp.from (A5.out.mono VV.out.hB));clear rp;go_wp2;go_ret2;exact⟨_,_,rfl,RP⟩
      ·exfalso;rcases KW with h|h|h<;>rw[h]at hq<;>revert hq<;>decide
      ·exfalso;rcases KW with h|h|h<;>rw[h]at hq<;>revert hq<;>decide
end
theorem Mp(E:Nat->Addr){s:Al}(hk:s.kind=6∨s.kind=7∨s.kind=8∨s.kind=9∨s.kind=10∨s.kind=13∨s.kind=15):VC E s:=by
 intro w B P g ca q co lt lo t c C nb kv K X v h18;have VV:=hid v;obtain⟨⟨k0,k1,k2,k3,k4,k5,k6,k7,k8,k9⟩,k10,k11,k12,k13⟩:=v.h.wk.work;clear v;have CC:=hid (Wg VV.out hk);rcases hk with hk|hk|hk|hk|hk|hk|hk;all_goals(
  rw[hk]at k1;clear hk;go_enter func70,ntmps70
  go_wp2_with fail
  refine CC.out.mono ?_;rintro e w9 ⟨tx,r,rfl,rp⟩;have RP:=hid rp.q;clear rp;go_wp2;go_ret2;exact⟨_,_,rfl,RP.out⟩)
end Go.Proofs.YtallmkehpfaaeaaGreatDoor
