import Derived.Maps.OwnOps
import Derived.Lib.Join
import Derived.BigRegion
import Derived.Deep.RegionHeld
import Derived.Test.YteoihknaljgocaaGreatDoorZ28m
set_option maxRecDepth 100000
set_option maxHeartbeats 2000000
namespace Go.Proofs.YteoihknaljgocaaGreatDoor
open Go Go.RowKit Go.Deep Go.Maps Go.Proofs.Tryz
section
variable {s t:Al}{lt:List Ae}{lo:List Ab}{c:Int}{tx:ByteArray}{k:Aw}
def Al.same(s t:Al):Prop:=t.th=s.th/\t.kind=s.kind/\t.id=s.id/\t.to=s.to/\t.cat=s.cat/\t.data=s.data/\t.b1=s.b1/\s.c1.same t.c1/\t.b2=s.b2/\s.c2.same t.c2
theorem Vx{lt':List Ae}{lo':List Ab}(e:s.same t)(h:Hc lt lo t c tx lt' lo'):Hc lt lo s c tx lt' lo':=by
 obtain⟨s1,s2,s3,s4,s5,s6,s7,⟨sa,sn,sk,sf,sg⟩,s9,⟨ra,rn,rk,rf,rg⟩⟩:=s;obtain⟨t1,t2,t3,t4,t5,t6,t7,⟨ta,tn,tk,tf,tg⟩,t9,⟨ua,un,uk,uf,ug⟩⟩:=t;obtain⟨e1,e2,e3,e4,e5,e6,e7,⟨f1,f2,f3⟩,e9,⟨g1,g2,g3⟩⟩:=e;dsimp only at e1 e2 e3 e4 e5 e6 e7 f1 f2 f3 e9 g1 g2 g3;subst e1 e2 e3 e4 e5 e6 e7 f1 f2 f3 e9 g1 g2 g3;cases h with
 |form a b c d e=>exact .form a b c d e
 |thread a b c d e f=>exact .thread a b c d e f
 |act a t ht hn p=>
  refine .act a t ht hn ?_;cases p with
  |k1 h x e1 e2 p=>exact .k1 h x e1 e2 p
  |k12 h x e1 e2 e3 p=>exact .k12 h x e1 e2 e3 p
  |k14 h x e1 e2 e3 p=>exact .k14 h x e1 e2 e3 p
  |make h p=>exact .make h p
  |drop h e1 e3 p=>exact .drop h e1 e3 p
  |k6 h p=>exact .k6 h p
  |k7 h p=>exact .k7 h p
  |k8 h p=>exact .k8 h p
  |k9 h p=>exact .k9 h p
  |k10 h p=>exact .k10 h p
  |k13 h p=>exact .k13 h p
  |k15 h p=>exact .k15 h p
def FM(k:Aw)(s:Al)(c:Int)(tx:ByteArray)(lt:List Ae)(lo:List Ab):Prop:=
 (Bj k=false/\c=1/\tx=⟨#[]⟩/\lt=[]/\lo=[])∨
 (Bj k=true/\∃(Ml:List Ae) (PN:List Ab) (lt2:List Ae) (lo2:List Ab),k.same (Bo none 0 none 0 Ml PN)/\Kq lt lt2/\IQ lo lo2/\Hc Ml PN s c tx lt2 lo2)
theorem FM.of{l:Aw}(hk:k.same l)(hs:s.same t)(h:FM l t c tx lt lo):FM k s c tx lt lo:=by
 have e:=Cp hk;rcases h with⟨a,b⟩|⟨a,Ml,PN,lt2,lo2,b,x,y,d⟩
 ·exact .inl ⟨e▸a,b⟩
 ·refine .inr ⟨e▸a,Ml,PN,lt2,lo2,?_,x,y,Vx hs d⟩;obtain⟨h1,h2,h3,h4⟩:=hk;refine⟨b.1.trans h1,fun j hj=>?_,b.2.2.1.trans h3,fun j hj=>?_⟩
  ·obtain⟨a1,a2,a3,a4,a5,a6,a7⟩:=h2 j hj;obtain⟨b1,b2,b3,b4,b5,b6,b7⟩:=b.2.1 j (by rw[h1];exact hj);exact⟨b1.trans a1,b2.trans a2,⟨b3.1.trans a3.1,b3.2.1.trans a3.2.1,b3.2.2.trans a3.2.2⟩,b4.trans a4,⟨b5.1.trans a5.1,b5.2.1.trans a5.2.1,b5.2.2.trans a5.2.2⟩,⟨b6.1.trans a6.1,b6.2.trans a6.2⟩,b7.trans a7⟩
  ·obtain⟨a1,a2,a3,a4,a5,a6,a7,a8,a9,a10⟩:=h4 j hj;obtain⟨b1,b2,b3,b4,b5,b6,b7,b8,b9,b10⟩:=b.2.2.2 j (by rw[h3];exact hj);exact⟨b1.trans a1,b2.trans a2,b3.trans a3,b4.trans a4,⟨b5.1.trans a5.1,b5.2.1.trans a5.2.1,b5.2.2.trans a5.2.2⟩,b6.trans a6,⟨b7.1.trans a7.1,b7.2.trans a7.2⟩,⟨b8.1.trans a8.1,b8.2.trans a8.2⟩,b9.trans a9,⟨b10.1.trans a10.1,b10.2.1.trans a10.2.1,b10.2.2.trans a10.2.2⟩⟩
theorem Tf.flip{l m:List Ae}(h:Tf l m):Tf m l:=⟨h.1.symm,fun j hj=>by
 obtain⟨a1,a2,a3,a4,a5,a6,a7⟩:=h.2 j (by rw[<-h.1];exact hj);exact⟨a1.symm,a2.symm,⟨a3.1.symm,fun i hi=>⟨(a3.2 i (by rw[<-a3.1];exact hi)).1.symm,(a3.2 i (by rw[<-a3.1];exact hi)).2.symm⟩⟩,a4.symm,⟨a5.1.symm,fun i hi=>⟨(a5.2 i (by rw[<-a5.1];exact hi)).1.symm,(a5.2 i (by rw[<-a5.1];exact hi)).2.symm⟩⟩,⟨a6.1.symm,fun i hi=>(a6.2 i (by rw[<-a6.1];exact hi)).symm⟩,a7.symm⟩⟩
theorem RE.flip{l m:List Ab}(h:RE l m):RE m l:=⟨h.1.symm,fun j hj=>by
 obtain⟨a1,a2,a3,a4,a5,a6,a7,a8,a9,a10⟩:=h.2 j (by rw[<-h.1];exact hj);exact⟨a1.symm,a2.symm,a3.symm,a4.symm,⟨a5.1.symm,fun i hi=>⟨(a5.2 i (by rw[<-a5.1];exact hi)).1.symm,(a5.2 i (by rw[<-a5.1];exact hi)).2.symm⟩⟩,a6.symm,⟨a7.1.symm,fun i hi=>(a7.2 i (by rw[<-a7.1];exact hi)).symm⟩,⟨a8.1.symm,fun i hi=>(a8.2 i (by rw[<-a8.1];exact hi)).symm⟩,a9.symm,⟨a10.1.symm,fun i hi=>⟨(a10.2 i (by rw[<-a10.1];exact hi)).1.symm,(a10.2 i (by rw[<-a10.1];exact hi)).2.symm⟩⟩⟩⟩
theorem Sr{c2:Int}{tx2:ByteArray}{lt2:List Ae}{lo2:List Ab}(h:FM k s c tx lt lo)(h2:FM k s c2 tx2 lt2 lo2):Vb c c2 tx tx2 lt lt2 lo lo2:=by
 rcases h with⟨a,rfl,rfl,rfl,rfl⟩|⟨a,x1,x2,x3,x4,x5,x6,x7,x8⟩<;>rcases h2 with⟨b,rfl,rfl,rfl,rfl⟩|⟨b,y1,y2,y3,y4,y5,y6,y7,y8⟩
 ·exact Bi
 ·rw[a]at b;cases b
 ·rw[a]at b;cases b
 ·obtain⟨z1,z2,z3,z4⟩:=TD x5 y5 x8 y8;exact⟨z1,z2,(Tf.after y6 (Tf.after x6 z3).flip).flip,(RE.after y7 (RE.after x7 z4).flip).flip⟩
theorem FM.okL(h:FM k s c tx lt lo):(lt=[]/\lo=[])∨okL lt lo=true:=by
 rcases h with⟨_,_,_,e1,e2⟩|⟨a,Ml,PN,lt2,lo2,b,x,y,d⟩
 ·exact .inl ⟨e1,e2⟩
 ·have o0:Go.Proofs.YteoihknaljgocaaGreatDoor.okL Ml PN=true:=(Cp b).trans a;have o2:=Kx o0 d;exact .inr ((Cp (k:=Bo none 0 none 0 lt lo) (l:=Bo none 0 none 0 lt2 lo2) ⟨x.1,x.2,y.1,y.2⟩).symm.trans o2)
def aI(k:Aw)(s:Al)(w:World)(e:Ending)(w':World):Prop:=
 ∃(lt:List Ae) (lo:List Ab) (ta oa:Option Addr) (ca co:Nat) (c:Int) (tx:ByteArray),e= .returned (.tuple #[.agg #[.slice ta lt.length ca,.slice oa lo.length co],.int .i64 c,.string tx])/\Hy w' w (.slice ta lt.length ca) (.slice oa lo.length co) lt lo/\Apart lt lo/\FM k s c tx lt lo/\Below w w w'
theorem Rw(w:World)(B:Nat):Hy w B (.slice none 0 0) (.slice none 0 0) [] []:=
 ⟨⟨rfl,.inl ⟨rfl,rfl⟩⟩,⟨rfl,.inl ⟨rfl,rfl⟩⟩,fun x hx=>(by cases hx),fun x hx=>(by cases hx)⟩
theorem Xt.ans{w w':World}{e:Ending}(h:Xt k s w e w'):aI k s w e w':=by
 obtain⟨b,kv,c,tx,rfl,⟨n,rfl,rfl,rfl⟩|⟨ok,lt,lo,lt',lt2,lo',lo2,ta,oa,ca,co,sm,rfl,ks,ap,x,y,d⟩⟩:=h
 ·exact⟨[],[],none,none,0,0,1,⟨#[]⟩,rfl,Rw _ _,.nil,.inl ⟨n,rfl,rfl,rfl,rfl⟩,b⟩
 ·exact⟨lt',lo',ta,oa,ca,co,c,tx,rfl,ks,ap,.inr ⟨ok,lt,lo,lt2,lo2,sm,x,y,d⟩,b⟩
def aE(k:Aw)(s:Al)(w:World)(e:Ending)(w':World):Prop:=
 ∃(lt:List Ae) (lo:List Ab) (ta oa:Option Addr) (ca co:Nat) (c:Int) (tx:ByteArray),e= .returned (.tuple #[.agg #[.slice ta lt.length ca,.slice oa lo.length co],.int .i64 c,.string tx])/\Hy w' w (.slice ta lt.length ca) (.slice oa lo.length co) lt lo/\FM k s c tx lt lo/\Below w w w'
theorem UD(k:Aw)(w:World)(hk:k.at w)(hw:∀i,i<k.on->(Lit.int .i64 (k.O i).id).wf=true)(s:Al)(hs:s.at w):
 Calls prog 7 #[.agg #[.slice k.ta k.tn k.tk,.slice k.oa k.on k.ok],.agg s] w fun e w'=>aE k s w e w':=by
 cases ok:Bj k with
 |false=>
  refine(Q8 k w hk ok hw s).mono ?_;rintro e w' ⟨rfl,b⟩;exact⟨[],[],none,none,0,0,1,⟨#[]⟩,rfl,Rw _ _,.inl ⟨ok,rfl,rfl,rfl,rfl⟩,b⟩
 |true=>
  refine(Mo k w hk ok s hs).mono ?_;rintro e w' ⟨lt,lo,lt',lo',ta,ca,oa,co,c,tx,rfl,ks,b,sm,d⟩;exact⟨lt',lo',ta,oa,ca,co,c,tx,rfl,ks.f,.inr ⟨ok,lt,lo,lt',lo',sm,Kq.refl _,⟨rfl,fun _ _=>⟨rfl,rfl,rfl,rfl,⟨rfl,rfl,rfl⟩,rfl,⟨rfl,rfl⟩,⟨rfl,rfl⟩,rfl,⟨rfl,rfl,rfl⟩⟩⟩,d⟩,b⟩
end
theorem Yi(ta:Option Addr)(ca:Nat)(oa:Option Addr)(co:Nat)(lt:List Ae)(lo:List Ab):(Bo ta ca oa co lt lo).same (Bo none 0 none 0 lt lo):=
 ⟨rfl,fun _ _=>Gn _,rfl,fun _ _=>Ab.same.refl _⟩
theorem FM.right{k:Aw}{s:Al}{c:Int}{tx:ByteArray}{lt:List Ae}{lo:List Ab}(h:FM k s c tx lt lo)(hc:c≠1):Bj k=true/\Go.Proofs.YteoihknaljgocaaGreatDoor.okL lt lo=true:=by
 rcases h with⟨_,e,_⟩|⟨a,Ml,PN,lt2,lo2,b,x,y,d⟩
 ·exact(hc e).elim
 ·have o0:Go.Proofs.YteoihknaljgocaaGreatDoor.okL Ml PN=true:=(Cp b).trans a;have o2:=Kx o0 d;exact⟨a,(Cp (k:=Bo none 0 none 0 lt lo) (l:=Bo none 0 none 0 lt2 lo2) ⟨x.1,x.2,y.1,y.2⟩).symm.trans o2⟩
theorem aA{lt lt':List Ae}{lo lo':List Ab}{s:Al}{c:Int}{tx:ByteArray}(h:Hc lt lo s c tx lt' lo'):Hc (lt.map Ae.nm) (lo.map Ab.nm) s c tx (lt'.map Ae.nm) (lo'.map Ab.nm):=by
 cases h with
 |form a b c d e=>exact .form a b c (by rw[d]) (by rw[e])
 |thread a b c d e f=>exact .thread a (by rw[Tb];exact b) c d (by rw[e]) (by rw[f])
 |act a t ht hn p=>exact .act a t (by simpa using ht) (by rw[Tb];exact hn) (by rw[List.getElem_map];exact XU p)
theorem Yn{l m:List Ae}(h:Kq l m):l.map Ae.nm=m.map Ae.nm:=Ta h.1 fun j hj=>WU (Gn _) (h.2 j hj)
theorem Ya{l m:List Ab}(h:IQ l m):l.map Ab.nm=m.map Ab.nm:=Ru h.1 fun j hj=>Yl (Ab.same.refl _) (h.2 j hj)
theorem Va{ta oa:Option Addr}{ca co:Nat}{lt lt':List Ae}{lo lo':List Ab}{s:Al}{c:Int}{tx:ByteArray}(ok:okL lt lo=true)(h:FM (Bo ta ca oa co lt lo) s c tx lt' lo'):Hc (lt.map Ae.nm) (lo.map Ab.nm) s c tx (lt'.map Ae.nm) (lo'.map Ab.nm):=by
 rcases h with⟨e,_⟩|⟨_,Ml,PN,lt2,lo2,sm,st,so,d⟩
 ·rw[show Bj (Bo ta ca oa co lt lo)=true from ok]at e;cases e
 ·obtain⟨et,eo⟩:=X1 (Yi ta ca oa co lt lo) sm;have:=aA d;rw[et,eo,Yn st,Ya so];exact this
theorem FM.ok2{ta oa:Option Addr}{ca co:Nat}{lt lt':List Ae}{lo lo':List Ab}{s:Al}{c:Int}{tx:ByteArray}(ok:Go.Proofs.YteoihknaljgocaaGreatDoor.okL lt lo=true)(h:FM (Bo ta ca oa co lt lo) s c tx lt' lo'):Go.Proofs.YteoihknaljgocaaGreatDoor.okL lt' lo'=true:=by
 rcases h with⟨e,_⟩|⟨a,Ml,PN,lt2,lo2,b,x,y,d⟩
 ·rw[show Bj (Bo ta ca oa co lt lo)=true from ok]at e;cases e
 ·have o0:Go.Proofs.YteoihknaljgocaaGreatDoor.okL Ml PN=true:=(Cp b).trans a;exact(Cp (k:=Bo none 0 none 0 lt' lo') (l:=Bo none 0 none 0 lt2 lo2) ⟨x.1,x.2,y.1,y.2⟩).symm.trans (Kx o0 d)
section
variable {X:Ae}{s:Al}{lt lt':List Ae}{lo lo':List Ab}{t:Nat}{c:Int}{tx:ByteArray}
end
theorem Rf{lt lt':List Ae}{lo lo':List Ab}{s:Al}{tx:ByteArray}(d:Hc lt lo s 0 tx lt' lo'):s.ok=true/\∃(t:Nat) (ht:t<lt.length),Qn lt s.th=some t/\FA lt[t] s lt lo t 0 tx lt' lo':=by
 cases d with
 |form _ hc=>cases hc
 |thread _ _ hc=>cases hc
 |act a t ht hn p=>exact⟨a,t,ht,hn,p⟩
theorem XL{X:Ae}{lo:List Ab}{x k:Int}{u:Nat}(h:Cc X lo x k=some u):u<lo.length/\Gl lo x=some u/\(Aa lo u).id=x/\(Aa lo u).kind=k/\Gz X (Aa lo u).b1 (Aa lo u).c1=true:=by
 obtain⟨h1,hu,h2,h3,h4⟩:=Dx h;have e:Aa lo u=lo[u]:=Az hu;exact⟨hu,h1,by rw[e];exact h2,by rw[e];exact h3,by rw[e];exact h4⟩
theorem P6{ta oa:Option Addr}{ca co:Nat}{lt:List Ae}{lo:List Ab}(ok:okL lt lo=true){x:Int}{j:Nat}(h:Gl lo x=some j):JM (Bo ta ca oa co lt lo) x=Aa lo j:=by
 have e:IU (Bo ta ca oa co lt lo) x=some j:=by
  unfold IU;rw[if_pos (show Bj (Bo ta ca oa co lt lo)=true from ok)];exact h
 unfold JM;rw[e];rfl
section
variable {ta oa ta1 oa1 ta2 oa2:Option Addr}{ca co ca1 co1 ca2 co2:Nat}{lt lt1 lt2:List Ae}{lo lo1 lo2:List Ab}{s:Al}{tx tx2:ByteArray}{c2:Int}
end
section
variable {X:Ae}{s:Al}{lt lt':List Ae}{lo lo':List Ab}{t:Nat}{c:Int}{tx:ByteArray}
end
section
variable {X:Ae}{s:Al}{lt lt':List Ae}{lo lo':List Ab}{t u:Nat}{c:Int}{tx:ByteArray}
end
def aK(f g:Nat->Int)(k:Nat):List (Int×Int):=(List.range k).map fun i=>(f i,g i)
variable {a b c W w:World}{P t B n i B':Nat}{x y v:Value}{f g f' g':Nat->Int}
theorem Ea{row:Option Nat}(h:a.grownBy b (some P))(k:b.grownBy c row)(hr:∀j,row=some j->a.heap.size<=j):a.grownBy c (some P):=
 ⟨k.os.trans h.os,k.tape.trans h.tape,k.output.trans h.output,Nat.le_trans h.size k.size,fun j hj hne=>(k.block j (Nat.lt_of_lt_of_le hj h.size) (fun e=>by have:=hr j e.symm;omega)).trans (h.block j hj hne)⟩
theorem Ag.set1(h:Ag W P (.cells #[x,y] t))(v:Value):Ag (W.setCell ⟨P,1,none⟩ v) P (.cells #[x,v] t):=by
 unfold Ag at *;simp[World.setCell,Array.getElem?_modify,h]
theorem Ag.jQ(h:Ag W P (.cells #[x,y] t))(i:Nat):W.frozen? ⟨P,i,none⟩=false:=by
 unfold Ag at h;simp[World.frozen?,h]
theorem AM.alloc(h:AM w B v n f g)(o:Obj):AM (w.alloc o) B v n f g:=World.ownsRow.alloc h o
theorem MJ(w:World)(x y:Int):AX (w.alloc (.cells #[.int .i64 x,.int .i64 y] 78)) (some ⟨w,0,none⟩) 1 (fun _=>x) (fun _=>y):=fun _=>by
 obtain⟨h1,h2⟩:=Ag.two (Ag.new w (.cells #[.int .i64 x,.int .i64 y] 78));refine⟨w,0,rfl,by simp,fun i hi=>?_⟩;obtain rfl:i=0:=by omega
 exact⟨h1,h2⟩
def CM(l:List (Int×Int))(i:Nat):Int:=(l.getD i (0,0)).1
def CR(l:List (Int×Int))(i:Nat):Int:=(l.getD i (0,0)).2
theorem Pd{l:List (Int×Int)}{p:Int×Int}(h:i<l.length):CM (l++[p]) i=CM l i:=by
 simp[CM,List.getElem?_append_left h]
theorem OH{l:List (Int×Int)}{p:Int×Int}(h:i<l.length):CR (l++[p]) i=CR l i:=by
 simp[CR,List.getElem?_append_left h]
theorem Pj(l:List (Int×Int))(p:Int×Int):CM (l++[p]) l.length=p.1:=by simp[CM]
theorem OD(l:List (Int×Int))(p:Int×Int):CR (l++[p]) l.length=p.2:=by simp[CR]
theorem NV(hf:∀i,i<n->f i=f' i)(hg:∀i,i<n->g i=g' i):Cf f g n=Cf f' g' n:=by
 unfold Cf;apply List.map_congr_left;intro j hj;have hj':j<n*2:=List.mem_range.1 hj;have:j/2<n:=by omega
 unfold Dm;rw[hf _ this,hg _ this]
theorem AM.congr(h:AM w B v n f g)(hf:∀i,i<n->f i=f' i)(hg:∀i,i<n->g i=g' i):AM w B v n f' g':=by
 unfold AM at *;rw[<-NV hf hg];exact h
def Bl(w:World)(B:Nat)(v:Value)(l:List (Int×Int)):Prop:=AM w B v l.length (CM l) (CR l)
theorem Bl.snoc{l:List (Int×Int)}{x y:Int}(h:AM w B v (l.length+1) (glue l.length (CM l) (fun _=>x)) (glue l.length (CR l) (fun _=>y))):Bl w B v (l++[(x,y)]):=by
 unfold Bl;rw[List.length_append];refine h.congr (fun i hi=>?_) (fun i hi=>?_)
 ·by_cases e:i<l.length
  ·simp only[glue,e,if_true];rw[Pd e]
  ·obtain rfl:i=l.length:=by have hi':i<l.length+1:=hi;omega
   rw[Pj];simp[glue]
 ·by_cases e:i<l.length
  ·simp only[glue,e,if_true];rw[OH e]
  ·obtain rfl:i=l.length:=by have hi':i<l.length+1:=hi;omega
   rw[OD];simp[glue]
theorem Bl.below{w':World}{l:List (Int×Int)}(h:Bl w B v l)(hb:Below w w w'):Bl w' B v l:=by
 refine⟨h.1,?_⟩;rcases h.2 with hn|⟨g,cap,cur,hv,hbg,hg,rest⟩
 ·exact .inl hn
 ·exact .inr ⟨g,cap,cur,hv,hbg,(hb.block g (Array.getElem?_eq_some_iff.1 hg).1).trans hg,rest⟩
theorem Bl.set{l:List (Int×Int)}(h:Bl w B v l)(hP:P<B)(i:Nat)(x:Value):Bl (w.setCell ⟨P,i,none⟩ x) B v l:=
 World.ownsRow.kept h (DK (Cs w P) i x) (Or.inr (fun e=>by have:=(World.ownsRow.lt h _ e).1;omega))
theorem Bl.low{l:List (Int×Int)}(h:Bl w B v l)(hB:B'<=B):Bl w B' v l:=by
 refine⟨h.1,?_⟩;rcases h.2 with hn|⟨g,cap,cur,hv,hb,rest⟩
 ·exact .inl hn
 ·exact .inr ⟨g,cap,cur,hv,by omega,rest⟩
theorem ownsRow_base_a{e size:Nat}{cs:List Value}(h:w.ownsRow B e size v n cs)(hB:B'<=B):w.ownsRow B' e size v n cs:=by
 refine⟨h.1,?_⟩;rcases h.2 with hn|⟨g,cap,cur,hv,hbg,rest⟩
 ·exact .inl hn
 ·exact .inr ⟨g,cap,cur,hv,Nat.le_trans hB hbg,rest⟩
theorem Jc(h:a.grownBy b (some P))(k:Below b b c):a.grownBy c (some P):=
 ⟨k.os.trans h.os,k.tape.trans h.tape,k.output.trans h.output,Nat.le_trans h.size k.size,fun j hj hne=>(k.block j (Nat.lt_of_lt_of_le hj h.size)).trans (h.block j hj hne)⟩
theorem Ag.set0(h:Ag W P (.cells #[x,y] t))(v:Value):Ag (W.setCell ⟨P,0,none⟩ v) P (.cells #[v,y] t):=by
 unfold Ag at *;simp[World.setCell,Array.getElem?_modify,h]

def ai(b:Int):Option (List (Int×Int))->Int×List (Int×Int)×Bool
 |some cats=>if Bb b cats.length (CM cats) (CR cats)=true then(b,cats,true)else(0,[],false)
 |none=>(0,[],false)
theorem Bl.nil(w:World)(B:Nat):Bl w B (.slice none 0 0) []:=AM.nil _ _ _ _

def dc(x:Int):List UInt8:=Db x.toNat
def lb(b:Int)(c:Ar):List UInt8:=cG b (aK c.f c.g c.n)
def bl(ns:List Int):List UInt8:=(ns.map fun x=>32::dc x).flatten
section
variable {ta oa ta1 oa1 ta2 oa2 ta3 oa3 ta4 oa4:Option Addr}{ca co ca1 co1 ca2 co2 ca3 co3 ca4 co4:Nat}{lt lt1 lt2 bT lt4 lt5:List Ae}{lo lo1 lo2 lo3 lo4 lo5:List Ab}{s:Al}{x1 x2 x3 x4 x5:ByteArray}{d e f g:Int}
end
theorem Aw.row.below{w w':World}{k:Aw}(h:k.row w)(hb:Below w w w'):k.row w':=⟨h.1.below hb,h.2.below hb⟩
def Aw.cells(k:Aw):Array Value:=#[.slice k.ta k.tn k.tk,.slice k.oa k.on k.ok]
open Go.BigFrame Go.Shelf



def FK(base:Int)(f g:Nat->Int)(cat level:Int):Nat->List (Int×Int)×Bool
 |0=>([],level==base)
 |k+1=>
  let r:=FK base f g cat level k
  let q:=if !r.2&&decide (cat<=f k)then(r.1++[(cat,level)],true)else r
  (if f k=cat then q.1 else q.1++[(f k,g k)],q.2)
def Ez(base:Int)(n:Nat)(f g:Nat->Int)(cat level:Int):List (Int×Int):=
 let r:=FK base f g cat level n
 if r.2 then r.1 else r.1++[(cat,level)]
theorem V7(base:Int)(f g:Nat->Int)(cat level:Int)(k:Nat):(FK base f g cat level k).1.length<=2*k:=by
 induction k with
 |zero=>simp[FK]
 |succ k ih=>
  simp only[FK];split<;>split<;>(try simp only[List.length_append,List.length_singleton])<;>omega
def Ip(l:List (Int×Int))(d:Bool)(cat level x:Int):List (Int×Int)×Bool:=if !d&&decide (cat<=x)then(l++[(cat,level)],true)else(l,d)
theorem Oh{base:Int}{f g:Nat->Int}{cat level:Int}{k:Nat}{l:List (Int×Int)}{d:Bool}(h:FK base f g cat level k=(l,d)):
 FK base f g cat level (k+1)=(if f k=cat then(Ip l d cat level (f k)).1 else(Ip l d cat level (f k)).1++[(f k,g k)],(Ip l d cat level (f k)).2):=by
 simp only[FK,h,Ip]
theorem Yc(l:List (Int×Int))(d:Bool)(cat level x:Int):(Ip l d cat level x).1.length<=l.length+1:=by
 unfold Ip;split<;>simp
theorem FZ(base:Int)(a:Option Addr)(n cap:Nat)(f g:Nat->Int)(cat level:Int)(w:World)(hn:n<=1048576)(hc:AX w a n f g):
 Calls prog 42 #[.agg #[.int .i64 base,.slice a n cap],cat,.int .i64 level] w fun e w'=>∃va vc,e= .returned (.agg #[.int .i64 base,.slice va (Ez base n f g cat level).length vc])/\
  Bl w' w (.slice va (Ez base n f g cat level).length vc) (Ez base n f g cat level)/\Below w w w':=by
 have n3:No (.cells #[.int .i64 base,.slice none 0 0] 30):=⟨⟩;have n4:No (.cells #[.int .i64 base,.slice a n cap] 30):=⟨⟩;have n5:No (.cells #[.int .i64 0,.slice none 0 0] 30):=⟨⟩;have hb0:=(((Below.refl _ w).alloc nr n4).alloc (by simp) n5).alloc (by simp;omega) n3;have n1:Nw (((w.alloc n4).alloc n5).alloc n3):=⟨⟩;have X0:Ag n1 w n4:=((Ag.new w _).alloc _).alloc _;have Y0:Ag n1 (w.heap.size+1) n5:=by
  have:=(Ag.new (w.alloc n4) n5).alloc n3;simpa using this
 have Z0:Ag n1 (w.heap.size+1+1) n3:=by
  have:=Ag.new ((w.alloc n4).alloc n5) n3;simpa using this
 go_enter func42,ntmps42
 go_wp2;obtain⟨w4,hW0⟩:∃w4:World,n1=w4:=⟨_,rfl⟩;rw[hW0]at hb0 X0 Y0 Z0 ⊢;clear hW0;go_loopw [8,9] (fun d i wr=>∃(k:Nat) (v:Value),k<=n/\i= .int .i64 k/\d= .bool (FK base f g cat level k).2/\Ag wr (w.heap.size+1+1) (.cells #[.int .i64 base,v] 30)/\Bl wr w4 v (FK base f g cat level k).1/\w4.grownBy wr (some (w.heap.size+1+1))) (fun _ i _=>n-(intOf i).toNat)
 case atStart=>exact⟨0,_,Nat.zero_le _,rfl,rfl,Z0,AM.nil _ _ _ _,Cs _ _⟩
 case round=>
  obtain⟨k,v,hk,rfl,rfl,hZ,hO,hg⟩:=hrel;have lz:=Z0.lt;have r1:wr.cell? ⟨w,0,none⟩=some (.int .i64 base):=(Cj hg X0.lt (by omega)).trans X0.two.1;have r2:wr.cell? ⟨w,1,none⟩=some (.slice a n cap):=(Cj hg X0.lt (by omega)).trans X0.two.2;obtain⟨r3,r4⟩:=hZ.two;have hf1:=hZ.jQ 1;have lens:=V7 base f g cat level k;have hw4:=hg.size;by_cases hlt':k<n
  ·obtain⟨b,off,rfl,hlt,hcc⟩:=hc (by omega);have hbl:b<w4.heap.size:=Nat.lt_of_lt_of_le hlt hb0.size;have g1:wr.cell? ⟨b,off+k*2,none⟩=some (.int .i64 (f k)):=(Cj hg hbl (by omega)).trans ((hb0.cell (p:=⟨b,_,none⟩) hlt).trans (hcc k hlt').1);have g2:wr.cell? ⟨b,off+k*2+1,none⟩=some (.int .i64 (g k)):=(Cj hg hbl (by omega)).trans ((hb0.cell (p:=⟨b,_,none⟩) hlt).trans (hcc k hlt').2);have HC1:Hid (w4.cell? ⟨b,off+k*2,none⟩=some (.int .i64 (f k))):=(hb0.cell (p:=⟨b,_,none⟩) hlt).trans (hcc k hlt').1;have HC2:Hid (w4.cell? ⟨b,off+k*2+1,none⟩=some (.int .i64 (g k))):=(hb0.cell (p:=⟨b,_,none⟩) hlt).trans (hcc k hlt').2;have i0:(0:Int)<=(k:Int):=(by omega);have i1:(k:Int)<(n:Int):=(by omega);generalize hR:FK base f g cat level k=r at *;obtain⟨l,d⟩:=r;dsimp only at hO lens ⊢;have HO:Hid (Bl wr w4 v l):=hO;have HR:Hid (FK base f g cat level k=(l,d)):=hR;have zz:w.heap.size+1+1<wr.heap.size:=hZ.lt;have HNE:Hid (some (w.heap.size+1+1)≠v.ownBlock):=fun e=>by have:=(World.ownsRow.lt HO _ e.symm).1;omega
   clear hcc hO hR;obtain⟨tb,htb⟩:∃tb,tb=(!d&&decide (cat<=f k)):=⟨_,rfl⟩;have HTB:Hid (tb=(!d&&decide (cat<=f k))):=htb;clear htb;go_upto_region 6 with fail
   go_cut[35] (fun t wc=>t= .bool tb/\wc=wr)
   case first=>
    cases d with
    |true=>
     go_wp2_with fail
     go_meet;case rel=>exact⟨by rw[HTB.out];rfl,rfl⟩
    |false=>
     go_wp2_with fail
     go_meet;case rel=>exact⟨by rw[HTB.out];rfl,rfl⟩
   case rest=>
    obtain⟨rfl,rfl⟩:=hcut;go_upto_if 35 with fail
    go_cut[8] (fun dd wc=>∃v1:Value,dd= .bool (Ip l d cat level (f k)).2/\Ag wc (w.heap.size+1+1) (.cells #[.int .i64 base,v1] 30)/\Bl wc w4 v1 (Ip l d cat level (f k)).1/\w4.grownBy wc (some (w.heap.size+1+1)))
    case first=>
     cases tb with
     |true=>
      have HP:Hid (Ip l d cat level (f k)=(l++[(cat,level)],true)):=by
       show _=_;unfold Ip;rw[if_pos HTB.out.symm]
      go_wp2_with(at_builtin;refine GY _ rfl _ _ rfl w4 _ _ _ _ rfl (AM.alloc HO _) _ 1 1 (fun _=>cat) (fun _=>level) rfl (MJ _ _ _) (by omega) (by simp;omega) ?_;intro a' c' w' hown' hgrow' hat';have hZ':=(hZ.alloc (.cells #[cat,.int .i64 level] 78)).grown hgrow' (HNE);obtain⟨p1,p2⟩:=hZ'.two;have pf:=hZ'.jQ 1)
      go_meet;case rel=>
       have hgN:w4.grownBy w' (some (w.heap.size+1+1)):=Ea (Ea hg (World.grownBy_alloc _ _ none) (fun j e=>by cases e)) hgrow' (fun j e=>(World.ownsRow.lt HO j e).1);refine⟨_,by rw[HP.out],hZ'.set1 _,?_,DK hgN _ _⟩;rw[HP.out];have hs:=Bl.snoc hown';exact World.ownsRow.kept hs (DK (Cs w' _) _ _) (Or.inr (fun e=>by have:=(World.ownsRow.lt hs _ e).1;omega))
     |false=>
      have HP:Hid (Ip l d cat level (f k)=(l,d)):=by
       show _=_;unfold Ip;rw[if_neg (by rw[<-HTB.out];simp)]
      go_wp2_with fail
      go_meet;case rel=>exact⟨v,by rw[HP.out],hZ,by rw[HP.out];exact HO.out,hg⟩
    case rest=>
     obtain⟨v1,rfl,hZ1,hO1,hg1⟩:=hcut;have y1:wc.cell? ⟨w,0,none⟩=some (.int .i64 base):=(Cj hg1 X0.lt (by omega)).trans X0.two.1;have y2:wc.cell? ⟨w,1,none⟩=some (.slice (some ⟨b,off,none⟩) n cap):=(Cj hg1 X0.lt (by omega)).trans X0.two.2;obtain⟨y3,y4⟩:=hZ1.two;have yf:=hZ1.jQ 1;have e1:wc.cell? ⟨b,off+k*2,none⟩=some (.int .i64 (f k)):=(Cj hg1 hbl (by omega)).trans HC1.out;have e2:wc.cell? ⟨b,off+k*2+1,none⟩=some (.int .i64 (g k)):=(Cj hg1 hbl (by omega)).trans HC2.out;have hs1:=hg1.size;have lenq:=Yc l d cat level (f k);have HO1:Hid (Bl wc w4 v1 (Ip l d cat level (f k)).1):=hO1;have HR1:Hid (FK base f g cat level (k+1)=(if f k=cat then(Ip l d cat level (f k)).1 else(Ip l d cat level (f k)).1++[(f k,g k)],(Ip l d cat level (f k)).2)):=Oh HR.out;generalize Ip l d cat level (f k)=q at *;obtain⟨l1,d1⟩:=q;dsimp only at lenq ⊢;clear g1 g2 r1 r2 r3 r4 hf1 hZ hg HTB HNE HO hO1 HR;by_cases t:f k=cat
     ·have t':(f k != cat)=false:=(by simpa using t);have HT:Hid (f k=cat):=t;clear t;go_wp2;go_roundw;case rel=>
       exact⟨k+1,v1,by omega,by go_num,by rw[HR1.out],hZ1,by rw[HR1.out,if_pos HT.out];exact HO1.out,hg1⟩
      case measure=>simp[intOf];omega
     ·have t':(f k != cat)=true:=(by simpa using t);have HT:Hid (¬f k=cat):=t;have n2:Nw (wc.alloc (.cells #[.int .i64 (f k),.int .i64 (g k)] 78)):=⟨⟩;have HOa:AM ((n2:World).drew) w4 v1 l1.length (CM l1) (CR l1):=AM.alloc HO1 _;have HOC:AX ((n2:World).drew) (some ⟨wc,0,none⟩) 1 (fun _=>f k) (fun _=>g k):=(MJ wc (f k) (g k)).below (Below.refl _ _).drew;have hbs:w4.heap.size<=((n2:World).drew).heap.size:=(by show w4.heap.size<=(wc.alloc _).heap.size;simp;omega);have HNE:Hid (some (w.heap.size+1+1)≠v1.ownBlock):=fun e=>by have:=(World.ownsRow.lt HO1 _ e.symm).1;omega
      have zz:w.heap.size+1+1<wc.heap.size:=hZ1.lt;have zb:b<wc.heap.size:=(by omega);have zn:w.heap.size<wc.heap.size:=(by omega);have hZd:Ag ((n2:World).drew) (w.heap.size+1+1) (.cells #[.int .i64 base,v1] 30):=hZ1.alloc _;clear t;go_wp2_with fail
      go_region_law((refine Fe _ (by rfl) _ _ (by rfl) w4 v1 _ _ _ (by rfl) HOa _ 1 1 (fun _=>f k) (fun _=>g k) (by rfl) HOC (by omega) hbs ?_;intro a' c' w' hown' hgrow' hat';have hZ':=Ag.grown hZd hgrow' (HNE);obtain⟨p1,p2⟩:=hZ'.two;have pf:=hZ'.jQ 1))
      all_goals
       clear HOa HOC hbs hZd;go_wp2;go_roundw;case rel=>
        have hgd:w4.grownBy n2 (some (w.heap.size+1+1)):=Ea hg1 (World.grownBy_alloc _ _ none) (fun j e=>by cases e);have hge:w4.grownBy (n2:World).drew (some (w.heap.size+1+1)):=⟨hgd.os,hgd.tape,hgd.output,hgd.size,hgd.block⟩;have hgN:w4.grownBy w' (some (w.heap.size+1+1)):=Ea hge hgrow' (fun j e=>(World.ownsRow.lt HO1 j e).1);have hs:=Bl.snoc hown';exact⟨k+1,_,by omega,by go_num,by rw[HR1.out],hZ'.set1 _,by rw[HR1.out,if_neg HT.out];exact World.ownsRow.kept hs (DK (Cs w' _) _ _) (Or.inr (fun e=>by have:=(World.ownsRow.lt hs _ e).1;omega)),DK hgN _ _⟩
       case measure=>simp[intOf];omega
  ·have e:k=n:=(by omega);subst e;clear hc;generalize hR:FK base f g cat level k=r at *;obtain⟨l,d⟩:=r;dsimp only at hO lens ⊢;have HO:Hid (Bl wr w4 v l):=hO;have y0:wr.cell? ⟨w.heap.size+1,0,none⟩=some (.int .i64 0):=(Cj hg Y0.lt (by omega)).trans Y0.two.1;have y1:wr.cell? ⟨w.heap.size+1,1,none⟩=some (.slice none 0 0):=(Cj hg Y0.lt (by omega)).trans Y0.two.2;have fz0:wr.frozen? ⟨w.heap.size+1,0,none⟩=false:=(GH hg Y0.lt (by omega)).trans (Y0.jQ 0);have fz1:wr.frozen? ⟨w.heap.size+1,1,none⟩=false:=(GH hg Y0.lt (by omega)).trans (Y0.jQ 1);have LW:Below w w wr:=hb0.grown hg hb0.size (fun j e=>by cases e;omega);have zz:w.heap.size+1+1<wr.heap.size:=hZ.lt;have HNE:Hid (some (w.heap.size+1+1)≠v.ownBlock):=fun e=>by have:=(World.ownsRow.lt HO _ e.symm).1;omega
   cases d with
   |true=>
    have HF:Hid (Ez base k f g cat level=l):=(by show _=_;simp[Ez,hR]);obtain⟨va,vc,rfl⟩:=AM.shape hO;clear hR hO;go_wp2;refine bodyPost_ret (v:= .agg #[.int .i64 base,.slice va l.length vc]) (by simp[results,Tryz.results42,go_sem, *]) rfl ⟨va,vc,by rw[HF.out],?_,?_⟩
    ·rw[HF.out];have hs:=HO.out;have h1:=World.ownsRow.kept hs (DK (DK (Cs wr (w.heap.size+1)) 0 (.int .i64 base)) 1 (.slice va l.length vc)) (Or.inr (fun e=>by have:=(World.ownsRow.lt hs _ e).1;omega));exact ownsRow_base_a h1 (by have:=hb0.size;omega)
    ·exact(LW.setCell (by dsimp only;omega) _).setCell (by dsimp only;omega) _
   |false=>
    have HF:Hid (Ez base k f g cat level=l++[(cat,level)]):=(by show _=_;simp[Ez,hR]);have hYr:Ag wr (w.heap.size+1) (.cells #[.int .i64 0,.slice none 0 0] 30):=Y0.grown hg (by simp);have HNE1:Hid (some (w.heap.size+1)≠v.ownBlock):=fun e=>by have:=(World.ownsRow.lt HO _ e.symm).1;omega
    clear hR hO;have n6:No (.cells #[cat,.int .i64 level] 78):=⟨⟩;go_wp2_with(at_builtin;refine GY _ rfl _ _ rfl w4 _ _ _ _ rfl (AM.alloc HO _) _ 1 1 (fun _=>cat) (fun _=>level) rfl (MJ _ _ _) (by omega) (by simp;omega) ?_;intro a' c' w' hown' hgrow' hat';have hZ':=(hZ.alloc n6).grown hgrow' (HNE);obtain⟨p1,p2⟩:=hZ'.two;have pf:=hZ'.jQ 1;have hY':=(hYr.alloc n6).grown hgrow' (HNE1);obtain⟨s1,s2⟩:=hY'.two;have sf0:=hY'.jQ 0;have sf1:=hY'.jQ 1)
    have hlen:(l++[(cat,level)]).length=l.length+1:=(by simp);have LW':Below w w w':=(LW.alloc (by omega) _).grown hgrow' (by simp;omega) (fun j e=>by have:=(World.ownsRow.lt HO j e).1;have:=hb0.size;omega);refine bodyPost_ret (v:= .agg #[.int .i64 base,.slice a' (l.length+1) c']) (by simp[results,Tryz.results42,go_sem, *]) rfl ⟨a',c',by rw[HF.out,hlen],?_,?_⟩
    ·rw[HF.out,hlen];have hs:=Bl.snoc hown';have h0:=World.ownsRow.kept hs (DK (Cs w' (w.heap.size+1+1)) 1 (.slice a' (l.length+1) c')) (Or.inr (fun e=>by have:=(World.ownsRow.lt hs _ e).1;omega));have h1:=World.ownsRow.kept h0 (DK (DK (Cs _ (w.heap.size+1)) 0 (.int .i64 base)) 1 (.slice a' (l.length+1) c')) (Or.inr (fun e=>by have:=(World.ownsRow.lt h0 _ e).1;omega));exact ownsRow_base_a h1 (by have:=hb0.size;omega)
    ·exact((LW'.setCell (by dsimp only;omega) _).setCell (by dsimp only;omega) _).setCell (by dsimp only;omega) _
variable {w0 w w':World}{rb n cap P:Nat}{a:Option Addr}
def BytesAt(w:World)(a:Option Addr)(n:Nat):Prop:=
 0<n->∃b off,a=some ⟨b,off,none⟩/\b<w.heap.size/\∀i,i<n->∃v:Int,w.cell? ⟨b,off+i,none⟩=some (.int .u8 v)/\0<=v/\v<256
structure Rd(w0 w:World)(rb:Nat)(a:Option Addr)(n cap:Nat):Prop where
 E:Below w0 w0 w
 le:w0.heap.size<=rb
 bytes:BytesAt w0 a n
 hn:n<=1048576
 at':∃p:Nat,p<=n/\Ag w rb (.cells #[.slice a n cap,.int .i64 p] 85)
theorem Rd.below(h:Rd w0 w rb a n cap)(hb:Below w w w'):Rd w0 w' rb a n cap:=by
 obtain⟨E,le,by',hn,p,hp,hB⟩:=h;exact⟨E.trans (hb.mono E.size),le,by',hn,p,hp,hB.below hb⟩
theorem Rd.other(h:Rd w0 w rb a n cap)(hg:w.grownBy w' (some P))(hP:w0.heap.size<=P)(hne:rb≠P):Rd w0 w' rb a n cap:=by
 obtain⟨E,le,by',hn,p,hp,hB⟩:=h;exact⟨E.grown hg E.size (fun j e=>by cases e;exact hP),le,by',hn,p,hp,hB.grown hg (by simpa using hne)⟩
theorem Rd.drew(h:Rd w0 w rb a n cap):Rd w0 w.drew rb a n cap:=h.below (Below.refl _ _).drew
theorem Rd.lt(h:Rd w0 w rb a n cap):rb<w.heap.size:=by
 obtain⟨_,_,_,_,p,_,hB⟩:=h;exact hB.lt
theorem Cz{a b c:World}(h:a.grownBy b (some P))(k:b.grownBy c (some P)):a.grownBy c (some P):=
 ⟨k.os.trans h.os,k.tape.trans h.tape,k.output.trans h.output,Nat.le_trans h.size k.size,fun j hj hne=>(k.block j (Nat.lt_of_lt_of_le hj h.size) hne).trans (h.block j hj hne)⟩
theorem Kc(w:World)(P:Nat):w.grownBy w.drew (some P):=⟨rfl,rfl,rfl,Nat.le_refl _,fun _ _ _=>rfl⟩
theorem Kk(w0:World)(rb:Nat)(a:Option Addr)(n cap:Nat)(w:World)(h:Rd w0 w rb a n cap):
 Calls prog 80 #[.pointer rb] w fun e w'=>∃x:Int,e= .returned (.int .i64 x)/\0<=x/\x<256/\Rd w0 w' rb a n cap/\w.grownBy w' (some rb):=by
 obtain⟨E,le,by',hn,p,hp,hB⟩:=h;obtain⟨x1,x2⟩:=hB.two;have f1:=hB.jQ 1;by_cases t:p<n
 ·obtain⟨b,off,rfl,hlt,hc⟩:=by' (by omega);obtain⟨v,hv,v0,v1⟩:=hc p t;have r1:w.cell? ⟨b,off+p,none⟩=some (.int .u8 v):=(E.cell (p:=⟨b,off+p,none⟩) hlt).trans hv;have hne:b≠rb:=by omega
  have i0:(0:Int)<=(p:Int):=by omega
  have i1:(p:Int)<(n:Int):=by omega
  have HB:Hid (Ag w rb (.cells #[.slice (some ⟨b,off,none⟩) n cap,.int .i64 p] 85)):=hB;have HBY:Hid (BytesAt w0 (some ⟨b,off,none⟩) n):=by';clear hc hv hB by';go_enter func80,ntmps80
  go_wp2_with fail
  go_region_held3(fun w'=>w'.cell? ⟨rb,0,none⟩=some (.slice (some ⟨b,off,none⟩) n cap)/\w'.cell? ⟨rb,1,none⟩=some (.int .i64 p)) (go_keep) (fail)
  go_wp2_with fail
  have B2:Ag (w.setCell ⟨rb,1,none⟩ (.int .i64 ((p:Int)+1))).drew rb (.cells #[.slice (some ⟨b,off,none⟩) n cap,.int .i64 ((p:Int)+1)] 85):=HB.out.set1 _;have g2:w.grownBy (w.setCell ⟨rb,1,none⟩ (.int .i64 ((p:Int)+1))).drew (some rb):=Cz (DK (Cs _ _) _ _) (Kc _ _);generalize (w.setCell ⟨rb,1,none⟩ (.int .i64 ((p:Int)+1))).drew=W2 at *;have r2:W2.cell? ⟨b,off+p,none⟩=some (.int .u8 v):=(Cj g2 (Nat.lt_of_lt_of_le hlt E.size) hne).trans r1;obtain⟨y1,y2⟩:=B2.two;have w1:IntKind.i64.wrap ((p:Int)+1-1)=(p:Int):=by rw[IntKind.wrap_i64];omega
  have w2:IntKind.i64.wrap (p:Int)=(p:Int):=by rw[IntKind.wrap_i64];omega
  clear x1 x2 f1 r1;go_region_held3(fun w'=>w'.cell? ⟨rb,0,none⟩=some (.slice (some ⟨b,off,none⟩) n cap)/\w'.cell? ⟨rb,1,none⟩=some (.int .i64 ((p:Int)+1))/\w'.cell? ⟨b,off+p,none⟩=some (.int .u8 v)) (go_keep) (fail)
  go_wp2;go_ret;refine⟨_,rfl,?_,?_,Rd.drew ⟨E.grown g2 E.size (fun j e=>by cases e;exact le),le,HBY,hn,p+1,by omega,by simpa using B2⟩,Cz g2 (Kc _ _)⟩
  ·rw[IntKind.wrap_i64];omega
  ·rw[IntKind.wrap_i64];omega
 ·have e:p=n:=by omega
  subst e;have HB:Hid (Ag w rb (.cells #[.slice a p cap,.int .i64 p] 85)):=hB;have HBY:Hid (BytesAt w0 a p):=by';clear hB by';go_enter func80,ntmps80
  go_wp2_with fail
  go_region_held3(fun w'=>w'.cell? ⟨rb,0,none⟩=some (.slice a p cap)/\w'.cell? ⟨rb,1,none⟩=some (.int .i64 p)) (go_keep) (fail)
  go_wp2;go_ret;exact⟨0,rfl,by omega,by omega,Rd.drew ⟨E,le,HBY,hn,p,hp,HB⟩,Kc _ _⟩
theorem AI(w0:World)(rb:Nat)(a:Option Addr)(n cap:Nat)(m:Nat)(w:World)(hm:m<=65536)(h:Rd w0 w rb a n cap):
 Calls prog 36 #[.pointer rb,.int .i64 m] w fun e w'=>∃x:Nat,e= .returned (.int .i64 x)/\x<m+1/\(1<=m->x<m)/\Rd w0 w' rb a n cap/\w.grownBy w' (some rb):=by
 have HR:Hid (Rd w0 w rb a n cap):=h;clear h;by_cases t:m<=1
 ·have t':(m:Int)<=1:=by omega
  go_enter func36,ntmps36
  go_wp2;go_ret;exact⟨0,rfl,by omega,by omega,HR,Cs _ _⟩
 ·have t':¬(m:Int)<=1:=by omega
  have m0:(m:Int)≠0:=by omega
  by_cases t2:m<=256
  ·have t2':(m:Int)<=256:=(by omega);go_enter func36,ntmps36
   go_wp2_with fail
   refine(Kk w0 rb a n cap _ HR).mono ?_;rintro e w1 ⟨x,rfl,x0,x1,R1,g1⟩;obtain⟨y,rfl⟩:∃y:Nat,x=y:=⟨x.toNat,by omega⟩;have HR1:Hid (Rd w0 w1 rb a n cap):=R1;clear R1;go_wp2;go_ret;refine⟨y%m,Ff ?_,?_,fun _=>Nat.mod_lt _ (by omega),HR1,g1⟩
   ·simp
   ·have:=Nat.mod_lt y (show 0<m by omega);omega
  ·have t2':¬(m:Int)<=256:=(by omega);go_enter func36,ntmps36
   go_wp2_with fail
   refine(Kk w0 rb a n cap _ HR).mono ?_;rintro e w1 ⟨x,rfl,x0,x1,R1,g1⟩;obtain⟨y,rfl⟩:∃y:Nat,x=y:=⟨x.toNat,by omega⟩;have wy:IntKind.i64.wrap ((y:Int)*256)=(y:Int)*256:=(by rw[IntKind.wrap_i64];omega);have HR1:Hid (Rd w0 w1 rb a n cap):=R1;clear R1;go_wp2_with fail
   refine(Kk w0 rb a n cap _ HR1).mono ?_;rintro e w2 ⟨x,rfl,x2,x3,R2,g2⟩;obtain⟨z,rfl⟩:∃z:Nat,x=z:=⟨x.toNat,by omega⟩;have wz:IntKind.i64.wrap ((y:Int)*256+(z:Int))=(y:Int)*256+(z:Int):=(by rw[IntKind.wrap_i64];omega);have yz:(0:Int)<=(y:Int)*256+(z:Int):=(by omega);have HR2:Hid (Rd w0 w2 rb a n cap):=R2;clear R2;go_wp2;go_ret;refine⟨(y*256+z)%m,Ff ?_,?_,fun _=>Nat.mod_lt _ (by omega),HR2,Cz g1 g2⟩
   ·simp
   ·have:=Nat.mod_lt (y*256+z) (show 0<m by omega);omega
theorem El(w0:World)(rb:Nat)(a:Option Addr)(n cap:Nat)(m:Nat)(w:World)(hm:m<=65536)(h:Rd w0 w rb a n cap):
 Calls prog 38 #[.pointer rb,.int .i64 m] w fun e w'=>∃t:Bool,e= .returned (.bool t)/\Rd w0 w' rb a n cap/\w.grownBy w' (some rb):=by
 have HR:Hid (Rd w0 w rb a n cap):=h;clear h;go_enter func38,ntmps38
 go_wp2_with fail
 refine(AI w0 rb a n cap m _ hm HR).mono ?_;rintro e w1 ⟨x,rfl,_,_,R1,g1⟩;have HR1:Hid (Rd w0 w1 rb a n cap):=R1;have wm:IntKind.i64.wrap ((m:Int)-1)=(m:Int)-1:=by rw[IntKind.wrap_i64];omega
 clear R1;go_wp2;go_ret;exact⟨_,rfl,HR1,g1⟩
theorem Rc(w0:World)(rb:Nat)(a:Option Addr)(n cap:Nat)(w:World)(h:Rd w0 w rb a n cap):
 Calls prog 119 #[.pointer rb] w fun e w'=>∃x:Int,e= .returned (.int .u64 x)/\Rd w0 w' rb a n cap/\w.grownBy w' (some rb):=by
 have HR:Hid (Rd w0 w rb a n cap):=h;clear h;go_enter func119,ntmps119
 go_wp2;go_loopw [3,4] (fun v i wr=>∃(k:Nat) (x:Int),k<=8/\i= .int .i64 k/\v= .int .u64 x/\Rd w0 wr rb a n cap/\w.grownBy wr (some rb)) (fun _ i _=>8-(intOf i).toNat)
 case atStart=>exact⟨0,0,by omega,rfl,rfl,HR,Cs _ _⟩
 case round=>
  obtain⟨k,x,hk,rfl,rfl,R1,g1⟩:=hrel;have HR1:Hid (Rd w0 wr rb a n cap):=R1;clear R1;by_cases t:k<8
  ·have t':(k:Int)<8:=(by omega);go_wp2_with fail
   refine(Kk w0 rb a n cap _ HR1).mono ?_;rintro e w2 ⟨y,rfl,y0,y1,R2,g2⟩;have HR2:Hid (Rd w0 w2 rb a n cap):=R2;clear R2;go_wp2;go_roundw;case rel=>exact⟨k+1,_,by omega,by go_num,rfl,HR2,Cz g1 g2⟩
   case measure=>simp[intOf];omega
  ·have t':¬(k:Int)<8:=(by omega);go_wp2;go_ret;exact⟨⟨x,rfl⟩,HR1,g1⟩
theorem XX(w0:World)(rb:Nat)(a:Option Addr)(n cap:Nat)(lo hi:Nat)(w:World)(hl:lo<=hi)(hh:hi<=1000)(h:Rd w0 w rb a n cap):
 Calls prog 81 #[.pointer rb,.int .i64 lo,.int .i64 hi] w fun e w'=>∃x:Int,e= .returned (.int .i64 x)/\Rd w0 w' rb a n cap/\w.grownBy w' (some rb):=by
 have HR:Hid (Rd w0 w rb a n cap):=h;clear h;have w1:IntKind.i64.wrap ((hi:Int)-lo)=(hi:Int)-lo:=by rw[IntKind.wrap_i64];omega
 have w2:IntKind.i64.wrap ((hi:Int)-lo+1)=(hi:Int)-lo+1:=by rw[IntKind.wrap_i64];omega
 have nl:¬(hi:Int)<(lo:Int):=by omega
 go_enter func81,ntmps81
 go_wp2_with fail
 refine(AI w0 rb a n cap 8 _ (by omega) HR).mono ?_;rintro e u1 ⟨x,rfl,_,x8,R1,g1⟩;have HR1:Hid (Rd w0 u1 rb a n cap):=R1;clear R1;by_cases t0:x=0
 ·subst t0;go_wp2;go_ret;exact⟨_,rfl,HR1,g1⟩
 ·by_cases t1:x=1
  ·subst t1;go_wp2;go_ret;exact⟨_,rfl,HR1,g1⟩
  ·have t0':((x:Int)==0)=false:=(by simpa using t0);have t1':((x:Int)==1)=false:=(by simp;omega);go_wp2_with fail
   refine(Rc w0 rb a n cap _ HR1).mono ?_;rintro e u2 ⟨y,rfl,R2,g2⟩;have HR2:Hid (Rd w0 u2 rb a n cap):=R2;clear R2;have m1:IntKind.u64.wrap ((hi:Int)-lo+1)=(hi:Int)-lo+1:=(by rw[IntKind.wrap_u64];omega);have m0:¬((hi:Int)-lo+1)=0:=(by omega);go_wp2;go_ret;exact⟨_,rfl,HR2,Cz g1 g2⟩
theorem Yu(w0:World)(rb:Nat)(a:Option Addr)(n cap:Nat)(lo hi:Nat)(w:World)(hl:lo<=hi)(hh:hi<=1000)(h:Rd w0 w rb a n cap):
 Calls prog 37 #[.pointer rb,.int .i64 lo,.int .i64 hi] w fun e w'=>∃x:Int,e= .returned (.int .i64 x)/\Rd w0 w' rb a n cap/\w.grownBy w' (some rb):=by
 have HR:Hid (Rd w0 w rb a n cap):=h;clear h;have w1:IntKind.i64.wrap ((lo:Int)-1)=(lo:Int)-1:=by rw[IntKind.wrap_i64];omega
 have w2:IntKind.i64.wrap ((hi:Int)+1)=(hi:Int)+1:=by rw[IntKind.wrap_i64];omega
 go_enter func37,ntmps37
 go_wp2_with fail
 refine(El w0 rb a n cap 24 _ (by omega) HR).mono ?_;rintro e u1 ⟨t,rfl,R1,g1⟩;have HR1:Hid (Rd w0 u1 rb a n cap):=R1;clear R1;cases t with
 |true=>
  go_wp2_with fail
  have lr:=HR1.out.lt;refine(AI w0 rb a n cap 4 _ (by omega) (HR1.out.below (Bf _ _))).mono ?_;rintro e u2 ⟨x,rfl,_,x4,R2,g2⟩;have x4':=x4 (by omega);have HR2:Hid (Rd w0 u2 rb a n cap):=R2;have gN:w.grownBy u2 (some rb):=Cz (Ea g1 (World.grownBy_alloc u1 _ none) (fun j e=>by cases e)) g2;have Bk:Ag u2 u1 (.cells #[.int .i64 ((lo:Int)-1),.int .i64 ((hi:Int)+1),.int .i64 (-9223372036854775808),.int .i64 9223372036854775807] 2):=(Ag.new u1 _).grown g2 (by simp;omega);unfold Ag at Bk;have c0:u2.cell? ⟨u1,0,none⟩=some (.int .i64 ((lo:Int)-1)):=by simp[World.cell?,Bk]
  have c1:u2.cell? ⟨u1,1,none⟩=some (.int .i64 ((hi:Int)+1)):=by simp[World.cell?,Bk]
  have c2:u2.cell? ⟨u1,2,none⟩=some (.int .i64 (-9223372036854775808)):=by simp[World.cell?,Bk]
  have c3:u2.cell? ⟨u1,3,none⟩=some (.int .i64 9223372036854775807):=by simp[World.cell?,Bk]
  clear R2 x4 Bk g2;have hx:x=0∨x=1∨x=2∨x=3:=by omega
  rcases hx with rfl|rfl|rfl|rfl;all_goals
   clear x4';go_wp2;go_ret;exact⟨_,rfl,HR2,gN⟩
 |false=>
  go_wp2_with fail
  refine(XX w0 rb a n cap lo hi _ hl hh HR1).mono ?_;rintro e u2 ⟨x,rfl,R2,g2⟩;have HR2:Hid (Rd w0 u2 rb a n cap):=R2;clear R2;go_wp2;go_ret;exact⟨_,rfl,HR2,Cz g1 g2⟩
section
variable {P:Program}{ops:Array Oper}{Q:Exit->Act->World->Prop}{md:Region.Mode}{S:World->Prop}{n:Nat}
def Ch(P:Program)(md:Region.Mode)(ops:Array Oper)(Q:Exit->Act->World->Prop)(S:World->Prop)(n:Nat)(f:Nat)(L:Array Bool)(a:Act)(w:World):Prop:=
 match f with
 |0=>Region.ready md ops L=[]/\Q .normal a w
 |f+1=>(Region.ready md ops L=[]->Q .normal a w)/\
  ∀i∈Region.ready md ops L,wpOp P ops Q i (fun a' w'=>(i≠n->S w')/\Ch P md ops Q S n f (L.setIfInBounds i true) a' w') a w
theorem Ch.any{f:Nat}:∀{L:Array Bool}{a:Act}{w:World},Ch P md ops Q S n f L a w->wpAny P md ops Q f L a w:=by
 induction f with
 |zero=>intro L a w h;exact h
 |succ f ih=>intro L a w h;exact⟨h.1,fun i hi=>wpOp_mono (fun _ _ k=>ih k.2) (h.2 i hi)⟩
theorem Nm{i:Nat}{L:Array Bool}(h:i∈Region.ready md ops L):L.getD i false=false:=by
 have h0:=(mem_ready.1 h).1;by_cases hl:i<L.size
 ·simp[hl]at h0 ⊢;exact h0
 ·simp[Array.getElem?_eq_none (Nat.le_of_not_lt hl)]
theorem Ch.takes{i:Nat}{oi:Oper}{v:Value}(hi:ops[i]? =some oi)(hs:Region.noSelect ops=true)
 (hwait:∀o,ops[n]? =some o->∃e∈o.after,Region.binds md e=true/\e.on=i)
 (hQ:∀c a w,Q (.panic c) (a.put oi.dst v) w->Q (.panic c) a w)(f:Nat):∀{L:Array Bool}{a:Act}{w:World},
 (∀j oj,ops[j]? =some oj->j≠i->L.getD j true=false->(∀e∈oj.after,Region.binds md e=true->e.on≠i)->oi.apart ops oj=true)->
 i∈Region.ready md ops L->YieldsIf P ops S oi v a->S w->Ch P md ops Q S n f (L.setIfInBounds i true) (a.put oi.dst v) w->Ch P md ops Q S n (f+1) L a w:=by
 have sel:=Region.noSelect_spec hs;induction f with
 |zero=>
  intro L a w _ hr hy hS H;refine⟨fun e=>absurd hr (by rw[e];simp),fun j hj=>?_⟩;by_cases e:j=i
  ·subst e;exact hy.wpOp hi hS ⟨fun _=>hS,H⟩
  ·have:=ready_mono hj e;rw[H.1]at this;simp at this
 |succ f ih=>
  intro L a w hfree hr hy hS H;refine⟨fun e=>absurd hr (by rw[e];simp),fun j hj=>?_⟩;by_cases e:j=i
  ·subst e;exact hy.wpOp hi hS ⟨fun _=>hS,H⟩
  ·obtain⟨hun,oj,hoj,hall⟩:=mem_ready.1 hj;have un:=Nm hr;have apart:∀x∈oj.after,Region.binds md x=true->x.on≠i:=fun x hx hb hq=>by
    have:=hall x hx hb;rw[hq,un]at this;cases this
   have hjn:j≠n:=fun hq=>by
    obtain⟨x,hx,hb,ho⟩:=hwait oj (by rw[<-hq];exact hoj);exact apart x hx hb ho
   refine wpOp_mono (fun a' w' k=>⟨fun _=>k.2.1 hjn,?_⟩) (wpOp_putIf hoj (hfree j oj hoj e hun apart) (fun cs b=>sel i oi cs b hi) (fun cs b=>sel j oj cs b hoj) hQ hy (H.2 j (ready_mono hj e)));refine ih (fun k ok hk hki hkl hkn=>hfree k ok hk hki ?_ hkn) (ready_mono hr (Ne.symm e)) k.1 (k.2.1 hjn) ?_
   ·by_cases q:j=k
    ·subst q;exact hun
    ·rw[getD_set_ne true q]at hkl;exact hkl
   ·rw[Array.setIfInBounds_comm _ _ e];exact k.2.2
def Uw(md:Region.Mode)(ops:Array Oper)(n i:Nat):Bool:=match ops[n]? with
 |some o=>o.after.any (fun e=>Region.binds md e&&e.on==i)
 |none=>true
theorem Wc{i:Nat}(h:Uw md ops n i=true):∀o,ops[n]? =some o->∃e∈o.after,Region.binds md e=true/\e.on=i:=fun o ho=>by
 unfold Uw at h;rw[ho]at h;dsimp only at h;obtain⟨e,he,hb⟩:=Array.any_eq_true'.1 h;simp only[Bool.and_eq_true,beq_iff_eq]at hb;exact⟨e,he,hb⟩
theorem Ch.take{i:Nat}{oi:Oper}(v:Value){f:Nat}{L:Array Bool}{a:Act}{w:World}(hi:ops[i]? =some oi)(hs:Region.noSelect ops=true)(hf:Region.free md ops L i=true)
 (hr:(Region.ready md ops L).contains i=true)(hw:Uw md ops n i=true)(hQ:∀c a w,Q (.panic c) (a.put oi.dst v) w->Q (.panic c) a w)(hS:S w)
 (hy:YieldsIf P ops S oi v a)(h:Ch P md ops Q S n f (L.setIfInBounds i true) (a.put oi.dst v) w):Ch P md ops Q S n (f+1) L a w:=
 Ch.takes hi hs (Wc hw) hQ f (Region.free_spec hi hf) (by simpa using hr) hy hS h
theorem Ch.one{i:Nat}{o:Oper}{f:Nat}{L:Array Bool}{a:Act}{w:World}(hi:ops[i]? =some o)(hr:Region.ready md ops L=[i])
 (h:∀K':Act->World->Prop,Hid (∀a w,(i≠n->S w)->Ch P md ops Q S n f (L.setIfInBounds i true) a w->K' a w)->if Region.wanted o (yielded ops a.tmps)=true then Oper.wp P o a w K' Q else K' (a.put o.dst undef) w):Ch P md ops Q S n (f+1) L a w:=
 ⟨fun e=>absurd (hr.symm.trans e) (by simp),fun j hj=>by
   rw[hr]at hj;obtain rfl:j=i:=by simpa using hj
   exact wpOp_step hi (fun K' hK=>h K' (fun a w h1 h2=>hK a w ⟨h1,h2⟩))⟩
theorem Ch.done{f:Nat}{L:Array Bool}{a:Act}{w:World}(hr:Region.ready md ops L=[])(h:Q .normal a w):Ch P md ops Q S n f L a w:=by
 cases f with
 |zero=>exact⟨hr,h⟩
 |succ f=>exact⟨fun _=>h,fun i hi=>by rw[hr]at hi;simp at hi⟩
theorem Ch.region{id:Nat}{a:Act}{w:World}(S:World->Prop)(n:Nat)(hm:P.follows .mixedOrders=true)(h:Ch P .any ops Q S n ops.size (Array.replicate ops.size false) a w.drew):(Code.region id ops true).wp P Q a w:=
 wp_region_any hm h.any
end
end Go.Proofs.YteoihknaljgocaaGreatDoor
