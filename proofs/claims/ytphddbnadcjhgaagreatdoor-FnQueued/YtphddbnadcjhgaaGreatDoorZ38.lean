import Derived.Test.YtphddbnadcjhgaaGreatDoorZ37
import Derived.Test.YtphddbnadcjhgaaGreatDoorZ8
import Derived.Test.YtphddbnadcjhgaaGreatDoorZ0
import Derived.Test.YtphddbnadcjhgaaGreatDoorZ20
import Derived.Test.YtphddbnadcjhgaaGreatDoorZ3
import Derived.Maps.OwnOps
import Derived.Test.YtphddbnadcjhgaaGreatDoorZ30
import Derived.Test.YtphddbnadcjhgaaGreatDoorZ2
import Derived.Lib.Join
import Derived.Test.YtphddbnadcjhgaaGreatDoorZ33
set_option maxRecDepth 100000
set_option maxHeartbeats 4000000
namespace Go.Proofs.YtphddbnadcjhgaaGreatDoor
open Go Go.RowKit Go.Deep Go.Maps
theorem Zc{lt lt':List Ac}{lo lo':List Ab}{s:Al}{c:Int}{tx:ByteArray}(h:FM lt lo s c tx lt' lo'):FM (lt.map Ac.nm) (lo.map Ab.nm) s c tx (lt'.map Ac.nm) (lo'.map Ab.nm):=by
 cases h with
 |form a b c d e=>exact .form a b c (by rw[d]) (by rw[e])
 |thread a b c d e f=>exact .thread a (by rw[Ub];exact b) c d (by rw[e]) (by rw[f])
 |act a t ht hn p=>exact .act a t (by simpa using ht) (by rw[Ub];exact hn) (by rw[List.getElem_map];exact Ww p)
theorem WK{l m:List Ac}(h:JV l m):l.map Ac.nm=m.map Ac.nm:=QR h.1 fun j hj=>Xb (FR _) (h.2 j hj)
theorem Xn{l m:List Ab}(h:Jb l m):l.map Ab.nm=m.map Ab.nm:=Rp h.1 fun j hj=>Xj (Ab.same.refl _) (h.2 j hj)
theorem Jy{ta oa:Option Addr}{ca co:Nat}{lt lt':List Ac}{lo lo':List Ab}{s:Al}{c:Int}{tx:ByteArray}(ok:okL lt lo=true)(h:Fj (Ck ta ca oa co lt lo) s c tx lt' lo'):FM (lt.map Ac.nm) (lo.map Ab.nm) s c tx (lt'.map Ac.nm) (lo'.map Ab.nm):=by
 rcases h with⟨e,_⟩|⟨_,H9,MF,lt2,lo2,sm,st,so,d⟩
 ·rw[show AZ (Ck ta ca oa co lt lo)=true from ok]at e;cases e
 ·obtain⟨et,eo⟩:=Wr (We ta ca oa co lt lo) sm;have:=Zc d;rw[et,eo,WK st,Xn so];exact this
theorem Fj.ok2{ta oa:Option Addr}{ca co:Nat}{lt lt':List Ac}{lo lo':List Ab}{s:Al}{c:Int}{tx:ByteArray}(ok:Go.Proofs.YtphddbnadcjhgaaGreatDoor.okL lt lo=true)(h:Fj (Ck ta ca oa co lt lo) s c tx lt' lo'):Go.Proofs.YtphddbnadcjhgaaGreatDoor.okL lt' lo'=true:=by
 rcases h with⟨e,_⟩|⟨a,H9,MF,lt2,lo2,b,x,y,d⟩
 ·rw[show AZ (Ck ta ca oa co lt lo)=true from ok]at e;cases e
 ·have o0:Go.Proofs.YtphddbnadcjhgaaGreatDoor.okL H9 MF=true:=(Cc b).trans a;exact(Cc (k:=Ck none 0 none 0 lt' lo') (l:=Ck none 0 none 0 lt2 lo2) ⟨x.1,x.2,y.1,y.2⟩).symm.trans (JI o0 d)
section
variable {X:Ac}{s:Al}{lt lt':List Ac}{lo lo':List Ab}{t:Nat}{c:Int}{tx:ByteArray}
end
theorem WR{lt lt':List Ac}{lo lo':List Ab}{s:Al}{tx:ByteArray}(d:FM lt lo s 0 tx lt' lo'):s.ok=true/\∃(t:Nat) (ht:t<lt.length),PN lt s.th=some t/\FZ lt[t] s lt lo t 0 tx lt' lo':=by
 cases d with
 |form _ hc=>cases hc
 |thread _ _ hc=>cases hc
 |act a t ht hn p=>exact⟨a,t,ht,hn,p⟩
theorem Wg{lt lt':List Ac}{lo lo':List Ab}{s:Al}{c:Int}{tx:ByteArray}(d:FM lt lo s c tx lt' lo')(ok:s.ok=true){t:Nat}(ht:t<lt.length)(hat:PN lt s.th=some t):FZ lt[t] s lt lo t c tx lt' lo':=by
 cases d with
 |form a=>rw[ok]at a;cases a
 |thread _ b=>rw[hat]at b;cases b
 |act _ t' ht' hn p=>
  obtain rfl:t=t':=Option.some.inj (hat.symm.trans hn);exact p
theorem LV{lo:List Ab}{u j:Nat}{o:Ab}(hj:j<lo.length):Aa (lo.set u o) j=if j=u then o else Aa lo j:=Qs hj
theorem Yq{lo:List Ab}{u:Nat}{o:Ab}(h:o.id=(Aa lo u).id)(x:Int):Gx (lo.set u o) x=Gx lo x:=by
 unfold Gx;rw[List.length_set];refine Gy (fun i hi=>?_) x;show(Aa (lo.set u o) i).id=(Aa lo i).id;rw[LV hi];by_cases e:i=u
 ·rw[if_pos e,h,e]
 ·rw[if_neg e]
theorem M9{X:Ac}{lo:List Ab}{x k:Int}{u:Nat}(h:Bf X lo x k=some u):u<lo.length/\Gx lo x=some u/\(Aa lo u).id=x/\(Aa lo u).kind=k/\Gl X (Aa lo u).b1 (Aa lo u).c1=true:=by
 obtain⟨h1,hu,h2,h3,h4⟩:=Df h;have e:Aa lo u=lo[u]:=AW hu;exact⟨hu,h1,by rw[e];exact h2,by rw[e];exact h3,by rw[e];exact h4⟩
theorem Vh{X:Ac}{lo:List Ab}{x k:Int}{u:Nat}{o:Ab}(h:Bf X lo x k=some u)(e1:o.id=(Aa lo u).id)(e2:o.kind=(Aa lo u).kind)(e3:o.b1=(Aa lo u).b1)(e4:o.c1=(Aa lo u).c1):Bf X (lo.set u o) x k=some u:=by
 obtain⟨hu,h1,_,h3,h4⟩:=M9 h;unfold Bf;rw[Yq e1,h1];simp only[];rw[LV hu,if_pos rfl,e2,e3,e4,h3,h4];simp
def FY(s:Al)(kind to':Int)(d:ByteArray):Al:=⟨s.th,kind,s.id,to',0,d,0,Am,0,Am⟩
theorem Rc(w:World):Am.at w:=⟨Nat.zero_le _,fun h=>absurd h (Nat.lt_irrefl 0)⟩
theorem IV(s:Al)(kind to':Int)(d:ByteArray)(hd:d.size<=maxLen)(w:World):(FY s kind to' d).at w:=⟨Rc w,Rc w,hd⟩
theorem Uf{s:Al}{to1 to2:Int}{k1 k2:Int}{d1 d2:ByteArray}(h:(FY s k1 to1 d1).ok=true)(hi:Yu k1=true)(hk:YV k2=true)(hi2:Yu k2=true)(ht:Kf to2 (ZN k2)=true)(hd:Bm d2 40=true)(hdu:(Mu k2||Hj d2)=true)(hc:Lv k2 0 (PQ k2)=true):(FY s k2 to2 d2).ok=true:=by
 unfold Al.ok GU Ei FY at h ⊢;simp only[Bool.and_eq_true]at h ⊢;obtain⟨⟨⟨⟨⟨⟨⟨⟨⟨⟨a,b⟩,c⟩,d⟩,e⟩,f⟩,g⟩,i⟩,j⟩,k⟩,l⟩:=h;refine⟨⟨⟨⟨⟨⟨⟨⟨⟨⟨hk,b⟩,c⟩,?_⟩,e⟩,?_⟩,hd⟩,hdu⟩,?_⟩,ht⟩,hc⟩
 ·simp[Dd,Am]
 ·simp[Dd,Am]
 ·rw[hi]at j;rw[hi2];exact j
theorem UQ{ta oa:Option Addr}{ca co:Nat}{lt:List Ac}{lo:List Ab}(ok:okL lt lo=true){x:Int}{j:Nat}(h:Gx lo x=some j):Sf (Ck ta ca oa co lt lo) x=Aa lo j:=by
 have e:Qj (Ck ta ca oa co lt lo) x=some j:=by
  unfold Qj;rw[if_pos (show AZ (Ck ta ca oa co lt lo)=true from ok)];exact h
 unfold Sf;rw[e];rfl
section
variable {ta oa ta1 oa1 ta2 oa2:Option Addr}{ca co ca1 co1 ca2 co2:Nat}{lt lt1 lt2:List Ac}{lo lo1 lo2:List Ab}{s:Al}{tx tx2:ByteArray}{c2:Int}
end
section
variable {X:Ac}{s:Al}{lt lt':List Ac}{lo lo':List Ab}{t:Nat}{c:Int}{tx:ByteArray}
theorem ae(p:FZ X s lt lo t c tx lt' lo')(hk:s.kind=9):RH X s lt lo t c tx lt' lo':=by
 cases p<;>first|assumption|(exfalso;omega)
theorem WH(p:FZ X s lt lo t c tx lt' lo')(hk:s.kind=10):JA X s lt lo t c tx lt' lo':=by
 cases p<;>first|assumption|(exfalso;omega)
end
def Ab.its(o:Ab)(i:As):Ab:=⟨o.id,o.kind,o.up,o.b1,o.c1,o.data,i,o.own,o.b2,o.c2⟩
section
variable {X:Ac}{s:Al}{lt lt':List Ac}{lo lo':List Ab}{t u:Nat}{c:Int}{tx:ByteArray}
theorem Xi(h:RH X s lt lo t c tx lt' lo')(hu:Bf X lo s.id 2=some u)(hc:Ao X (Aa lo u).b1 (Aa lo u).c1=true)(hn:(Aa lo u).items.n≠8):
 c=0/\lt'=lt/\∃a k,lo'=lo.set u ((Aa lo u).its ⟨a,(Aa lo u).items.n+1,k,Cv (Aa lo u).items.n (Aa lo u).items.f s.data⟩):=by
 rcases h with⟨e,_⟩|⟨v,e,⟨h,_⟩|⟨_,h,_⟩|⟨_,_,h1,_,h3,a,k,h4⟩⟩
 ·rw[hu]at e;cases e
 ·rw[hu]at e;obtain rfl:=Option.some.inj e;rw[hc]at h;cases h
 ·rw[hu]at e;obtain rfl:=Option.some.inj e;exact absurd h hn
 ·rw[hu]at e;obtain rfl:=Option.some.inj e;exact⟨h1,h3,a,k,h4⟩
theorem Wd(h:RH X s lt lo t 0 tx lt' lo'):∃u,Bf X lo s.id 2=some u/\Ao X (Aa lo u).b1 (Aa lo u).c1=true:=by
 rcases h with⟨_,e,_⟩|⟨v,e,⟨_,h,_⟩|⟨_,_,h,_⟩|⟨h,_⟩⟩
 ·cases e
 ·cases h
 ·cases h
 ·exact⟨v,e,h⟩
theorem Ra(h:JA X s lt lo t c tx lt' lo')(hu:Bf X lo s.id 2=some u)(hc:Ao X (Aa lo u).b1 (Aa lo u).c1=true)(hn:(Aa lo u).items.n≠0):
 c=0/\tx=(Aa lo u).items.f 0/\lt'=lt/\∃a k,lo'=lo.set u ((Aa lo u).its ⟨a,(Aa lo u).items.n-1,k,fun i=>(Aa lo u).items.f (i+1)⟩):=by
 rcases h with⟨e,_⟩|⟨v,e,⟨h,_⟩|⟨_,h,_⟩|⟨_,_,h1,h2,h3,a,k,h4⟩⟩
 ·rw[hu]at e;cases e
 ·rw[hu]at e;obtain rfl:=Option.some.inj e;rw[hc]at h;cases h
 ·rw[hu]at e;obtain rfl:=Option.some.inj e;exact absurd h hn
 ·rw[hu]at e;obtain rfl:=Option.some.inj e;exact⟨h1,h2,h3,a,k,h4⟩
theorem VN(h:JA X s lt lo t c tx lt' lo')(hu:Bf X lo s.id 2=some u)(hc:Ao X (Aa lo u).b1 (Aa lo u).c1=true)(hn:(Aa lo u).items.n=0):c=6:=by
 rcases h with⟨e,_⟩|⟨v,e,⟨h,_⟩|⟨_,_,h,_⟩|⟨_,h,_⟩⟩
 ·rw[hu]at e;cases e
 ·rw[hu]at e;obtain rfl:=Option.some.inj e;rw[hc]at h;cases h
 ·exact h
 ·rw[hu]at e;obtain rfl:=Option.some.inj e;exact absurd hn h
end
theorem Za{lo:List Ab}{u:Nat}(hu:u<lo.length)(i:As):Aa (lo.set u ((Aa lo u).its i)) u=(Aa lo u).its i:=by
 rw[LV hu,if_pos rfl]
theorem LY{X:Ac}{lo:List Ab}{x k:Int}{u:Nat}(h:Bf X lo x k=some u)(i:As):Bf X (lo.set u ((Aa lo u).its i)) x k=some u:=Vh h rfl rfl rfl rfl
theorem LX{lo l:List Ab}{u:Nat}{i:As}(hu:u<lo.length)(h:l=lo.set u ((Aa lo u).its i)):Aa l u=(Aa lo u).its i/\∀j,l.set u ((Aa l u).its j)=lo.set u ((Aa lo u).its j):=by
 have e:Aa l u=(Aa lo u).its i:=by rw[h,Za hu]
 refine⟨e,fun j=>?_⟩;rw[e,h,List.set_set];rfl
theorem UI{X:Ac}{lt lt1 lt2 Sl lt4 lt5:List Ac}{lo lo1 lo2 lo3 lo4 lo5:List Ab}{t u:Nat}{x:Int}{p p' k:Al}{d e f g:Int}{t1 t2 t3 t4 t5:ByteArray}{c0:Int}
 (hp:p.id=x)(hp':p'.id=x)(hk:k.id=x)
 (hu:Bf X lo x 2=some u)(hc:Ao X (Aa lo u).b1 (Aa lo u).c1=true)(hn:(Aa lo u).items.n=0)
 (h1:RH X p lt lo t c0 t1 lt1 lo1)
 (h2:RH X p' lt1 lo1 t d t2 lt2 lo2)(h3:JA X k lt2 lo2 t e t3 Sl lo3)(h4:JA X k Sl lo3 t f t4 lt4 lo4)(h5:JA X k lt4 lo4 t g t5 lt5 lo5):
 d=0/\e=0/\t3=p.data/\f=0/\t4=p'.data/\g=6/\lt4=lt/\∃i:As,i.n=0/\lo4=lo.set u ((Aa lo u).its i):=by
 have ul:=(M9 hu).1;obtain⟨_,rfl,_,_,a1⟩:=Xi h1 (by rw[hp];exact hu) hc (by omega);obtain⟨q1,r1⟩:=LX ul a1;have v1:Bf X lo1 x 2=some u:=by rw[a1];exact LY hu _
 have c1:Ao X (Aa lo1 u).b1 (Aa lo1 u).c1=true:=by rw[q1];exact hc
 obtain⟨d0,rfl,_,_,a2⟩:=Xi h2 (by rw[hp'];exact v1) c1 (by rw[q1];show(Aa lo u).items.n+1≠8;omega);rw[r1]at a2;obtain⟨q2,r2⟩:=LX ul a2;have v2:Bf X lo2 x 2=some u:=by rw[a2];exact LY hu _
 have c2:Ao X (Aa lo2 u).b1 (Aa lo2 u).c1=true:=by rw[q2];exact hc
 obtain⟨e0,t0,rfl,_,_,a3⟩:=Ra h3 (by rw[hk];exact v2) c2 (by rw[q2];exact Nat.succ_ne_zero _);rw[r2]at a3;obtain⟨q3,r3⟩:=LX ul a3;have v3:Bf X lo3 x 2=some u:=by rw[a3];exact LY hu _
 have c3:Ao X (Aa lo3 u).b1 (Aa lo3 u).c1=true:=by rw[q3];exact hc
 obtain⟨f0,t9,rfl,_,_,a4⟩:=Ra h4 (by rw[hk];exact v3) c3 (by rw[q3,q2,q1];show(Aa lo u).items.n+1+1-1≠0;omega);rw[r3]at a4;obtain⟨q4,r4⟩:=LX ul a4;have v4:Bf X lo4 x 2=some u:=by rw[a4];exact LY hu _
 have c4:Ao X (Aa lo4 u).b1 (Aa lo4 u).c1=true:=by rw[q4];exact hc
 have n4:(Aa lo4 u).items.n=0:=by rw[q4,q3,q2,q1];show(Aa lo u).items.n+1+1-1-1=0;omega
 have g0:=VN h5 (by rw[hk];exact v4) c4 n4;refine⟨d0,e0,?_,f0,?_,g0,rfl,_,?_,a4⟩
 ·rw[t0,q2,q1];simp[Ab.its,Cv,hn]
 ·rw[t9,q3,q2,q1];simp[Ab.its,Cv,hn]
 ·rw[q3,q2,q1];show(Aa lo u).items.n+1+1-1-1=0;omega
open Go.Proofs.Tryz
theorem Ho(x:Int)(w:World)(h0:0<=x)(h1:x<=10000000000):
 Calls prog 22 #[.int .i64 x] w fun e w'=>e= .returned (.string ⟨(Cu x.toNat).toArray⟩)/\Below w.heap.size w w':=by
 obtain⟨n,rfl⟩:=Int.eq_ofNat_of_zero_le h0;exact I5 n w (by omega)
def Fq(f g:Nat->Int)(k:Nat):List (Int×Int):=(List.range k).map fun i=>(f i,g i)
theorem Il(f g:Nat->Int)(k:Nat):Fq f g (k+1)=Fq f g k++[(f k,g k)]:=by simp[Fq,List.range_succ]
theorem Yk(base:Int)(f g:Nat->Int)(k:Nat)(hb:base.toNat<=10000000000)(hc:∀i,i<k->(f i).toNat<=10000000000/\(g i).toNat<=10000000000):(Ul base (Fq f g k)).length<=10000000001+k*20000000010:=by
 induction k with
 |zero=>simp[Ul,Fq];have:=E8 base.toNat;omega
 |succ k ih=>
  rw[Il,MP,List.length_append];have:=ih (fun i hi=>hc i (by omega));have h1:=E8 (f k).toNat;have h2:=E8 (g k).toNat;have h3:=hc k (by omega);simp only[LZ,List.length_cons,List.length_append];omega
theorem Sw(base:Int)(a:Option Addr)(n cap:Nat)(f g:Nat->Int)(w:World)(hn:n<=12)(hc:AL w a n f g)(hb:0<=base/\base<=10000000000)(hf:∀i,i<n->0<=f i/\f i<=10000000000)(hg:∀i,i<n->0<=g i/\g i<=10000000000):
 Calls prog 23 #[.agg #[.int .i64 base,.slice a n cap]] w fun e w'=>e= .returned (.string ⟨(Ul base (Fq f g n)).toArray⟩)/\Below w.heap.size w w':=by
 have L0:=(Below.refl _ w).alloc (Nat.le_refl _) (.cells #[.int .i64 base,.slice a n cap] 30);have A0:=Ah.new w (.cells #[.int .i64 base,.slice a n cap] 30);obtain⟨x1,x2⟩:=A0.two;go_enter func23,ntmps23
 go_wp2_with fail
 refine(Ho base _ hb.1 hb.2).mono ?_;rintro e w1 ⟨rfl,hb1⟩;have A1:=A0.below hb1;have L1:Below w.heap.size w w1:=L0.trans (hb1.mono L0.size);have hc1:=hc.below L1;clear x1 x2 A0 L0 hb1;go_wp2_with fail
 go_loopw [3,4] (fun s i wr=>∃k:Nat,k<=n/\i= .int .i64 k/\s= .string ⟨(Ul base (Fq f g k)).toArray⟩/\Below w1.heap.size w1 wr) (fun _ i _=>n-(intOf i).toNat)
 case atStart=>exact⟨0,Nat.zero_le _,rfl,by simp[Ul,Fq],Below.refl _ _⟩
 case round=>
  obtain⟨k,hk,rfl,rfl,hB⟩:=hrel;have lk:=Yk base f g k (by omega) (fun i hi=>by have:=hf i (by omega);have:=hg i (by omega);omega);have Ar:=A1.below hB;obtain⟨x1,x2⟩:=Ar.two;by_cases hlt:k<n
  ·have hki:(k:Int)<(n:Int):=(by omega);obtain⟨b,off,rfl,hbl,hcc⟩:=hc1 (by omega);obtain⟨c1,c2⟩:=hcc k hlt;have g1:wr.cell? ⟨b,off+k*2,none⟩=some (.int .i64 (f k)):=(hB.cell (p:=⟨b,_,none⟩) hbl).trans c1;have g2:wr.cell? ⟨b,off+k*2+1,none⟩=some (.int .i64 (g k)):=(hB.cell (p:=⟨b,_,none⟩) hbl).trans c2;have hf0:=hf k hlt;have hg0:=hg k hlt;have hD1:=E8 (f k).toNat;have hD2:=E8 (g k).toNat;have P1:Hid (∀v:World,Calls prog 22 #[.int .i64 (f k)] v fun e w'=>e= .returned (.string ⟨(Cu (f k).toNat).toArray⟩)/\Below v.heap.size v w'):=fun v=>Ho (f k) v hf0.1 hf0.2;have P2:Hid (∀v:World,Calls prog 22 #[.int .i64 (g k)] v fun e w'=>e= .returned (.string ⟨(Cu (g k).toNat).toArray⟩)/\Below v.heap.size v w'):=fun v=>Ho (g k) v hg0.1 hg0.2;have HT:Hid (Ul base (Fq f g (k+1))=Ul base (Fq f g k)++44::(Cu (f k).toNat++58::Cu (g k).toNat)):=by
    show _=_;rw[Il,MP];rfl
   have Ad:Ah wr.drew w.heap.size (.cells #[.int .i64 base,.slice (some ⟨b,off,none⟩) n cap] 30):=Ar;have hbd:b<wr.drew.heap.size:=Nat.lt_of_lt_of_le hbl hB.size;have gd1:wr.drew.cell? ⟨b,off+k*2,none⟩=some (.int .i64 (f k)):=g1;have gd2:wr.drew.cell? ⟨b,off+k*2+1,none⟩=some (.int .i64 (g k)):=g2;clear hc hc1 hcc hf hg c1 c2;generalize hT:Ul base (Fq f g k)=T at *;generalize hE1:Cu (f k).toNat=D1 at *;generalize hE2:Cu (g k).toNat=D2 at *;generalize f k=fk at *;generalize g k=gk at *;have hD1':D1.length<=10000000001:=(by omega);have hD2':D2.length<=10000000001:=(by omega);have lk':T.length<=1000000000000:=(by omega);have r1:¬9223372036854775807<T.length+1:=(by omega);have r2:¬9223372036854775807<T.length+1+D1.length:=(by omega);have r3:¬9223372036854775807<T.length+1+D1.length+1:=(by omega);have r4:¬9223372036854775807<T.length+1+D1.length+1+D2.length:=(by omega);clear hT hE1 hE2 hD1 hD2 lk hf0 hg0;go_wp2_with fail
   go_region_held3(fun w'=>w'.cell? ⟨w.heap.size,0,none⟩=some (.int .i64 base)/\w'.cell? ⟨w.heap.size,1,none⟩=some (.slice (some ⟨b,off,none⟩) n cap)/\w'.cell? ⟨b,off+k*2,none⟩=some (.int .i64 fk)/\w'.cell? ⟨b,off+k*2+1,none⟩=some (.int .i64 gk)) (go_keep)
    (first
      |(go_at_call 22;have hq:=hb7;refine(P2.out _).mono ?_;rintro e w8 ⟨rfl,hb8⟩;obtain⟨t1,t2⟩:=((Ad.below hb7).below hb8).two;have t3:=(hb8.cell (p:=⟨b,off+k*2,none⟩) (Nat.lt_of_lt_of_le hbd hb7.size)).trans y3;have t4:=(hb8.cell (p:=⟨b,off+k*2+1,none⟩) (Nat.lt_of_lt_of_le hbd hb7.size)).trans y4)
      |(go_at_call 22;refine(P1.out _).mono ?_;rintro e w7 ⟨rfl,hb7⟩;obtain⟨y1,y2⟩:=(Ad.below hb7).two;have y3:=(hb7.cell (p:=⟨b,off+k*2,none⟩) hbd).trans gd1;have y4:=(hb7.cell (p:=⟨b,off+k*2+1,none⟩) hbd).trans gd2))
   go_wp2;go_roundw;case rel=>
    refine⟨k+1,by omega,by go_num,?_,(hB.drew.trans (hb7.mono hB.size)).trans (hb8.mono (Nat.le_trans hB.size hb7.size))⟩;have ea:(⟨#[44]⟩:ByteArray)=⟨[44].toArray⟩:=rfl;have eb:(⟨#[58]⟩:ByteArray)=⟨[58].toArray⟩:=rfl;rw[ea,eb,Gb,Gb,Gb,Gb,HT.out];simp
   case measure=>simp[intOf];omega
  ·have hki:¬(k:Int)<(n:Int):=(by omega);have ek:k=n:=(by omega);subst ek;go_wp2;go_ret;exact⟨rfl,L1.trans (hB.mono L1.size)⟩

def Zi(b:Int):Option (List (Int×Int))->Int×List (Int×Int)×Bool
 |some cats=>if AH b cats.length (Cr cats) (Cs cats)=true then(b,cats,true)else(0,[],false)
 |none=>(0,[],false)
theorem Bd.nil(w:World)(B:Nat):Bd w B (.slice none 0 0) []:=Az.nil _ _ _ _
theorem Jm{k:Aq}(h:AZ k=true):BU k.on k.O=true:=by
 simp only[AZ,Bool.and_eq_true]at h;exact h.1.1.1.2
theorem Ya{k:Aq}(h:AZ k=true){c:Nat}(hc:c<k.on)(h0:c≠0):∃u,Bg (fun i=>(k.O i).id) k.on (k.O c).up=some u:=by
 have hp:Hf k.on k.O=true:=by
  simp only[AZ,Bool.and_eq_true]at h;exact h.1.2
 have hu:=Eo hp (c-1) (by omega);have e:c-1+1=c:=by omega
 simp only[e]at hu;unfold Ev at hu;split at hu
 ·rename_i u hu';exact⟨u,hu'⟩
 ·cases hu
theorem Pv(k:Nat):∀n,n<10^(k+1)->(Cu n).length<=k+1:=by
 induction k with
 |zero=>intro n h;rw[Gk (by simpa using h)];simp
 |succ k ih=>
  intro n h;by_cases hs:n<10
  ·rw[Gk hs];simp
  ·rw[Jw hs,List.length_append];have:=ih (n/10) (by rw[Nat.pow_succ]at h;omega);simp;omega
def dc(x:Int):List UInt8:=Cu x.toNat
def lb(b:Int)(c:Av):List UInt8:=Ul b (Fq c.f c.g c.n)
def bl(ns:List Int):List UInt8:=(ns.map fun x=>32::dc x).flatten
def Fv(c:AI):List Int:=(List.range c.n).map c.h
theorem XR(ns:List Int)(x:Int):bl (ns++[x])=bl ns++32::dc x:=by simp[bl]
def small(x:Int):Prop:=0<=x/\x<=9999
theorem Et{x:Int}(h:small x):(dc x).length<=4:=Pv 3 _ (by have:=h.2;have:=h.1;show x.toNat<10000;omega)
theorem Kp{ns:List Int}(h:∀x∈ns,small x):(bl ns).length<=5*ns.length:=by
 induction ns with
 |nil=>simp[bl]
 |cons x ns ih=>
  have h1:=ih (fun y hy=>h y (List.mem_cons_of_mem _ hy));have h2:=Et (h x (List.mem_cons_self ..));have e:bl (x::ns)=(32::dc x)++bl ns:=by simp[bl]
  rw[e,List.length_append,List.length_cons,List.length_cons];omega
theorem Po{b:Int}{c:Av}(h:AH b c.n c.f c.g=true):small b/\c.n<=12/\∀i,i<c.n->small (c.f i)/\small (c.g i):=by
 obtain⟨h1,h2,h3⟩:=IR h;have h1':=Cl.1 h1;refine⟨⟨h1'.1,by have:=h1'.2;omega⟩,h2,fun i hi=>?_⟩;have:=h3 i hi;simp only[CS,Bool.and_eq_true]at this;have f1:=Cl.1 this.1.1.1;have g1:=Cl.1 this.1.1.2;exact⟨⟨by omega,f1.2⟩,⟨g1.1,by omega⟩⟩
theorem Iq{b:Int}{c:Av}(h:AH b c.n c.f c.g=true):(lb b c).length<=200:=by
 obtain⟨h1,h2,h3⟩:=Po h;have key:∀k,k<=c.n->(Ul b (Fq c.f c.g k)).length<=4+k*10:=fun k=>by
  induction k with
  |zero=>intro _;simp[Ul,Fq];exact Et h1
  |succ k ih=>
   intro hk;have:=ih (by omega);have d1:=Et (h3 k (by omega)).1;have d2:=Et (h3 k (by omega)).2;unfold dc at d1 d2;rw[Il,MP,List.length_append];simp only[LZ,List.length_cons,List.length_append];omega
 have:=key c.n (Nat.le_refl _);unfold lb;omega
theorem C8{c:AI}(h:Bu c.n c.h=true):c.n<=10/\∀x∈Fv c,small x:=by
 obtain⟨h1,h2⟩:=On h;refine⟨h1,fun x hx=>?_⟩;unfold Fv at hx;obtain⟨i,hi,rfl⟩:=List.mem_map.1 hx;have:=h2 i (List.mem_range.1 hi);simp only[Dk,Bool.and_eq_true]at this;have f1:=Cl.1 this.1;exact⟨by omega,f1.2⟩
theorem IZ(c:AI):(Fv c).length=c.n:=by simp[Fv]
def Ye:List UInt8:=[116,104,114,101,97,100]
def YI:List UInt8:=[111,98,106,101,99,116]
def ZR:List UInt8:=[100,97,116,97]
def WT:List UInt8:=[105,116,101,109]
def I7(ws:List (List UInt8)):List UInt8:=Lib.join ws [32]++[10]
def QH(t:Ac):List UInt8:=I7 ([Ye,dc t.id,lb t.b1 t.c1,lb t.b2 t.c2,dc t.made]++(Fv t.own).map dc)
def Hp(o:Ab)(ks:List Int):List UInt8:=I7 ([YI,dc o.id,dc o.kind,dc o.up,lb o.b1 o.c1,lb o.b2 o.c2]++(Fv o.own).map dc++ks.map dc)
def Ie(d:ByteArray):List UInt8:=if d.toList.isEmpty=true then[]else I7 [ZR,d.data.toList]
def Ia(f:Nat->ByteArray)(j:Nat):List UInt8:=((List.range j).map fun i=>I7 [WT,(f i).data.toList]).flatten
theorem KR(f:Nat->ByteArray)(j:Nat):Ia f (j+1)=Ia f j++I7 [WT,(f j).data.toList]:=by simp[Ia,List.range_succ]
def objT(o:Ab)(ks:List Int):List UInt8:=Hp o ks++Ie o.data++Ia o.items.f o.items.n
def Fh(T:Nat->Ac)(n:Nat):List UInt8:=((List.range n).map fun i=>QH (T i)).flatten
def F7(O:Nat->Ab)(n:Nat):List UInt8:=((List.range n).map fun i=>objT (O i) []).flatten
theorem MO(T:Nat->Ac)(n:Nat):Fh T (n+1)=Fh T n++QH (T n):=by simp[Fh,List.range_succ]
theorem MG(O:Nat->Ab)(n:Nat):F7 O (n+1)=F7 O n++objT (O n) []:=by simp[F7,List.range_succ]
def Hw(k:Aq):ByteArray:=if AZ k=true then⟨(Fh k.T k.tn++F7 k.O k.on).toArray⟩else⟨#[]⟩
theorem QG(t:Ac):QH t=Ye++[32]++dc t.id++[32]++lb t.b1 t.c1++[32]++lb t.b2 t.c2++[32]++dc t.made++bl (Fv t.own)++[10]:=by
 unfold QH I7;rw[List.cons_append,Lib.join_cons];simp[Lib.joinTail,bl,Function.comp_def]
theorem Rt(o:Ab)(ks:List Int):Hp o ks=YI++[32]++dc o.id++[32]++dc o.kind++[32]++dc o.up++[32]++lb o.b1 o.c1++[32]++lb o.b2 o.c2++bl (Fv o.own)++bl ks++[10]:=by
 unfold Hp I7;rw[List.cons_append,List.cons_append,Lib.join_cons];simp[Lib.joinTail,bl,Function.comp_def]
theorem J8(a b:List UInt8):I7 [a,b]=a++[32]++b++[10]:=by
 unfold I7;rw[Lib.join_cons];simp[Lib.joinTail]
theorem Ku{t:Ac}(h:Cn t=true):small t.id/\small t.made/\AH t.b1 t.c1.n t.c1.f t.c1.g=true/\AH t.b2 t.c2.n t.c2.f t.c2.g=true/\Bu t.own.n t.own.h=true:=by
 simp only[Cn,De,Bool.and_eq_true]at h;have h1:=Cl.1 h.1.1.1.1;have h5:=Cl.1 h.2;exact⟨⟨by omega,by omega⟩,⟨h5.1,by omega⟩,h.1.1.1.2,h.1.1.2,h.1.2⟩
theorem XC{t:Ac}(h:Cn t=true):(QH t).length<=1000:=by
 obtain⟨h1,h2,h3,h4,h5⟩:=Ku h;have d1:=Et h1;have d2:=Et h2;have d3:=Iq h3;have d4:=Iq h4;have d5:=Kp (C8 h5).2;have d6:=(C8 h5).1;rw[IZ]at d5;rw[QG];simp only[List.length_append,Ye,List.length_cons,List.length_nil];omega
theorem Kq{o:Ab}(h:BZ o=true):AH o.b1 o.c1.n o.c1.f o.c1.g=true/\AH o.b2 o.c2.n o.c2.f o.c2.g=true/\Bu o.own.n o.own.h=true/\o.data.size<=40/\o.items.n<=8/\(∀i,i<o.items.n->(o.items.f i).size<=40)/\small o.kind:=by
 simp only[BZ,Bool.and_eq_true]at h;obtain⟨⟨⟨⟨⟨h1,h2⟩,h3⟩,h4⟩,h5⟩,h6⟩:=h;obtain⟨i1,i2⟩:=Tl h5;have p:∀{s:ByteArray},Bm s 40=true->s.size<=40:=fun hs=>by
  simp only[Bm,Bool.and_eq_true,decide_eq_true_eq]at hs;omega
 refine⟨h1,h2,h3,p h4,i1,fun i hi=>p (i2 i hi),?_⟩;unfold Gm at h6;unfold small;split at h6
 ·omega
 ·split at h6
  ·omega
  ·split at h6
   ·omega
   ·split at h6
    ·omega
    ·cases h6
theorem QF{o:Ab}{ks:List Int}(h:BZ o=true)(h1:small o.id)(h2:small o.up)(hk:∀x∈ks,small x)(hn:ks.length<=271):(Hp o ks).length<=3000:=by
 obtain⟨p1,p2,p3,p4,p5,p6,p7⟩:=Kq h;have d1:=Et h1;have d2:=Et h2;have d3:=Et p7;have d4:=Iq p1;have d5:=Iq p2;have d6:=Kp (C8 p3).2;have d7:=(C8 p3).1;have d8:=Kp hk;rw[IZ]at d6;rw[Rt];simp only[List.length_append,YI,List.length_cons,List.length_nil];omega
theorem QY{d:ByteArray}(h:d.size<=40):(Ie d).length<=50:=by
 unfold Ie;split
 ·simp
 ·rw[J8];have:d.data.toList.length=d.size:=Array.length_toList;simp only[List.length_append,ZR,List.length_cons,List.length_nil];omega
theorem QP{f:Nat->ByteArray}{n:Nat}(h:∀i,i<n->(f i).size<=40):(Ia f n).length<=50*n:=by
 induction n with
 |zero=>simp[Ia]
 |succ n ih=>
  have h1:=ih (fun i hi=>h i (by omega));have h2:=h n (by omega);have:(f n).data.toList.length=(f n).size:=Array.length_toList;rw[KR,List.length_append,J8];simp only[List.length_append,WT,List.length_cons,List.length_nil];omega
theorem PX{k:Aq}(h:AZ k=true){i:Nat}(hi:i<k.on):small (k.O i).id:=by
 have hp:=h;simp only[AZ,Bool.and_eq_true]at hp;obtain⟨⟨⟨⟨ht,ho⟩,hn⟩,_⟩,_⟩:=hp;by_cases h0:i=0
 ·subst h0;rw[(Cg ho).1];exact⟨by omega,by omega⟩
 ·have ha:=Eo hn (i-1) (by omega);have e:i-1+1=i:=by omega
  simp only[e]at ha;have hpos:=D4 ho i hi;cases hf:Bg (fun j=>(k.T j).id) k.tn ((k.O i).id/1000)with
  |none=>rw[Jk ht hf]at ha;cases ha
  |some t=>
   rw[Hr ht hf]at ha;obtain⟨t1,t2⟩:=AE hf;have t3:=(Cp ht).2.2 t t1;simp only[Dq,Bool.and_eq_true]at t3;obtain⟨s1,s2,_⟩:=Ku t3.1;have a1:=Cl.1 ha;have t2':(k.T t).id=(k.O i).id/1000:=t2;have hid:(k.T t).id<=9:=by
    have:=t3.1;simp only[Cn,De,Bool.and_eq_true]at this;exact(Cl.1 this.1.1.1.1).2
   exact⟨by omega,by omega⟩
theorem Wn{k:Aq}(h:AZ k=true){i:Nat}(hi:i<k.on):small (k.O i).up:=by
 by_cases h0:i=0
 ·subst h0;rw[(Cg (Jm h)).2.2];exact⟨by omega,by omega⟩
 ·obtain⟨u,hu⟩:=Ya h hi h0;obtain⟨u1,u2⟩:=AE hu;have u2':(k.O u).id=(k.O i).up:=u2;rw[<-u2'];exact PX h u1
theorem Pt{k:Aq}(h:AZ k=true){i:Nat}(hi:i<k.tn):Cn (k.T i)=true:=by
 simp only[AZ,Bool.and_eq_true]at h;have:=(Cp h.1.1.1.1).2.2 i hi;simp only[Dq,Bool.and_eq_true]at this;exact this.1
theorem Qc{k:Aq}(h:AZ k=true){i:Nat}(hi:i<k.on):BZ (k.O i)=true:=by
 have:=(Bv (Jm h)).2.2.1 i hi;simp only[Fe,Bool.and_eq_true]at this;exact this.1
theorem Wc{k:Aq}(h:AZ k=true):1<=k.tn/\k.tn<=9/\k.on<=271:=by
 have h2:=(Bv (Jm h)).2.1;simp only[AZ,Bool.and_eq_true]at h;have h1:=Cp h.1.1.1.1;exact⟨h1.1,h1.2.1,h2⟩
theorem Oy{T:Nat->Ac}{n:Nat}(h:∀i,i<n->Cn (T i)=true):(Fh T n).length<=1000*n:=by
 induction n with
 |zero=>simp[Fh]
 |succ n ih=>
  have h1:=ih (fun i hi=>h i (by omega));have h2:=XC (h n (by omega));rw[MO,List.length_append];omega
theorem Wv{o:Ab}{ks:List Int}(h:BZ o=true)(h1:small o.id)(h2:small o.up)(hk:∀x∈ks,small x)(hn:ks.length<=271):(objT o ks).length<=4000:=by
 obtain⟨_,_,_,p4,p5,p6,_⟩:=Kq h;have d1:=QF h h1 h2 hk hn;have d2:=QY p4;have d3:=QP p6;unfold objT;simp only[List.length_append];omega
theorem Vj{k:Aq}(h:AZ k=true){n:Nat}(hn:n<=k.on):(F7 k.O n).length<=4000*n:=by
 induction n with
 |zero=>simp[F7]
 |succ n ih=>
  have h1:=ih (by omega);have h2:=Wv (ks:=[]) (Qc h (i:=n) (by omega)) (PX h (by omega)) (Wn h (by omega)) (fun x hx=>by cases hx) (by simp);rw[MG,List.length_append];omega
theorem Px{lt lt' L0:List Ac}{lo lo':List Ab}{s:Al}{c:Int}{tx:ByteArray}(d:FM lt lo s c tx lt' lo')(ok:s.ok=true)(e:lt=L0){t:Nat}(ht:t<L0.length)(hat:PN L0 s.th=some t):FZ L0[t] s lt lo t c tx lt' lo':=by
 subst e;exact Wg d ok ht hat
theorem Uh{X:Ac}{s:Al}{lt lt':List Ac}{lo lo':List Ab}{t:Nat}{c:Int}{tx:ByteArray}(h:RH X s lt lo t c tx lt' lo'):lt'=lt:=by
 rcases h with⟨_,_,_,e,_⟩|⟨v,_,⟨_,_,_,e,_⟩|⟨_,_,_,_,e,_⟩|⟨_,_,_,_,e,_⟩⟩<;>exact e
theorem Rj{X:Ac}{s:Al}{lt lt':List Ac}{lo lo':List Ab}{t:Nat}{c:Int}{tx:ByteArray}(h:JA X s lt lo t c tx lt' lo'):lt'=lt:=by
 rcases h with⟨_,_,_,e,_⟩|⟨v,_,⟨_,_,_,e,_⟩|⟨_,_,_,_,e,_⟩|⟨_,_,_,_,e,_⟩⟩<;>exact e
theorem Ue(x:Ac):QH x.nm=QH x:=rfl
theorem Uq(x:Ab):objT x.nm []=objT x []:=rfl
theorem Xl{o:Ab}{i:As}(h:o.items.n=0)(hi:i.n=0):objT (o.its i) []=objT o []:=by
 unfold objT;rw[show(o.its i).items=i from rfl,h,hi];rfl
theorem UK{ta oa ta' oa':Option Addr}{ca co ca' co':Nat}{lt lt':List Ac}{lo lo':List Ab}(ok:okL lt lo=true)(ok':okL lt' lo'=true)(et:lt'.map Ac.nm=lt.map Ac.nm){u:Nat}(hu:u<lo.length){i:As}(hi:i.n=0)(hn:(Aa lo u).items.n=0)(eo:lo'.map Ab.nm=(lo.map Ab.nm).set u ((Aa (lo.map Ab.nm) u).its i)):
 Hw (Ck ta' ca' oa' co' lt' lo')=Hw (Ck ta ca oa co lt lo):=by
 have l1:lt'.length=lt.length:=by simpa using congrArg List.length et
 have l2:lo'.length=lo.length:=by simpa using congrArg List.length eo
 have a:Fh (AY lt') lt'.length=Fh (AY lt) lt.length:=by
  unfold Fh;rw[l1];congr 1;refine List.map_congr_left fun j _=>?_;rw[<-Ue (AY lt' j),<-Ue (AY lt j),<-Xw,<-Xw,et]
 have b:F7 (Aa lo') lo'.length=F7 (Aa lo) lo.length:=by
  unfold F7;rw[l2];congr 1;refine List.map_congr_left fun j hj=>?_;rw[<-Uq (Aa lo' j),<-Uq (Aa lo j),<-GN,<-GN,eo,LV (by simpa using List.mem_range.1 hj)];by_cases e:j=u
  ·subst e;rw[if_pos rfl];exact Xl (by rw[GN];exact hn) hi
  ·rw[if_neg e]
 unfold Hw;rw[if_pos (show AZ (Ck ta' ca' oa' co' lt' lo')=true from ok'),if_pos (show AZ (Ck ta ca oa co lt lo)=true from ok)];show(⟨(Fh (AY lt') lt'.length++F7 (Aa lo') lo'.length).toArray⟩:ByteArray)=⟨(Fh (AY lt) lt.length++F7 (Aa lo) lo.length).toArray⟩;rw[a,b]
def Io:ByteArray:=⟨#[110,101,120,116]⟩
section
variable {ta oa ta1 oa1 ta2 oa2 ta3 oa3 ta4 oa4:Option Addr}{ca co ca1 co1 ca2 co2 ca3 co3 ca4 co4:Nat}{lt lt1 lt2 Sl lt4 lt5:List Ac}{lo lo1 lo2 lo3 lo4 lo5:List Ab}{s:Al}{x1 x2 x3 x4 x5:ByteArray}{d e f g:Int}
theorem RS(h1:Fj (Ck ta ca oa co lt lo) (FY s 9 0 s.data) 0 x1 lt1 lo1)(hi:(Sf (Ck ta ca oa co lt lo) s.id).items.n=0)(h2:Fj (Ck ta1 ca1 oa1 co1 lt1 lo1) (FY s 9 0 Io) d x2 lt2 lo2)(h3:Fj (Ck ta2 ca2 oa2 co2 lt2 lo2) (FY s 10 0 ⟨#[]⟩) e x3 Sl lo3)(h4:Fj (Ck ta3 ca3 oa3 co3 Sl lo3) (FY s 10 0 ⟨#[]⟩) f x4 lt4 lo4)(h5:Fj (Ck ta4 ca4 oa4 co4 lt4 lo4) (FY s 10 0 ⟨#[]⟩) g x5 lt5 lo5):
 d=0/\e=0/\x3=s.data/\f=0/\x4=Io/\g=6/\Hw (Ck ta4 ca4 oa4 co4 lt4 lo4)=Hw (Ck ta ca oa co lt lo):=by
 obtain⟨ok,ok1⟩:=h1.right (by decide);have ok2:=h2.ok2 ok1;have ok3:=h3.ok2 ok2;have ok4:=h4.ok2 ok3;obtain⟨so,t,ht,hat,p⟩:=WR (Jy ok h1);have sp:(FY s 9 0 Io).ok=true:=Uf so rfl rfl rfl rfl (by decide) (by decide) rfl;have sk:(FY s 10 0 ⟨#[]⟩).ok=true:=Uf so rfl rfl rfl rfl (by decide) (by simp[Hj,ByteArray.toList,ByteArray.toList.loop,ByteArray.size]) rfl;have p1:=ae p rfl;have e1:=Uh p1;have p2:=ae (Px (Jy ok1 h2) sp e1 ht hat) rfl;have e2:=(Uh p2).trans e1;have p3:=WH (Px (Jy ok2 h3) sk e2 ht hat) rfl;have e3:=(Rj p3).trans e2;have p4:=WH (Px (Jy ok3 h4) sk e3 ht hat) rfl;have e4:=(Rj p4).trans e3;have p5:=WH (Px (Jy ok4 h5) sk e4 ht hat) rfl;obtain⟨u,hu,hc⟩:=Wd p1;obtain⟨ul,ua,_⟩:=M9 hu;have hn:(Aa lo u).items.n=0:=by
  rw[UQ ok ((Jv lo s.id).symm.trans ua)]at hi;exact hi
 obtain⟨r1,r2,r3,r4,r5,r6,r7,i,r8,r9⟩:=UI (x:=s.id) (p:=FY s 9 0 s.data) (p':=FY s 9 0 Io) (k:=FY s 10 0 ⟨#[]⟩) rfl rfl rfl hu hc (by rw[GN];exact hn) p1 p2 p3 p4 p5;exact⟨r1,r2,r3,r4,r5,r6,UK ok ok4 r7 (by simpa using ul) r8 hn r9⟩
end
open Go.BigFrame Go.Shelf
theorem UN(v:Value)(W:World):(method 390 177 (.agg #[v]) "loop.example/g00272/impl.takes").run prog W= .ok (236,.agg #[v]) W:=by kernel_rfl
theorem VZ(v:Value)(W:World):(nilAhead 390 177 (.agg #[v]) "loop.example/g00272/impl.takes").run prog W= .ok (some false) W:=by kernel_rfl
theorem Us(v:Value)(W:World):(method 390 177 (.agg #[v]) "loop.example/g00272/impl.label").run prog W= .ok (133,.agg #[v]) W:=by kernel_rfl
theorem Vy(v:Value)(W:World):(method 390 179 (.agg #[v]) "loop.example/g00272/impl.takes").run prog W= .ok (237,.agg #[v]) W:=by kernel_rfl
theorem VF(v:Value)(W:World):(nilAhead 390 179 (.agg #[v]) "loop.example/g00272/impl.takes").run prog W= .ok (some false) W:=by kernel_rfl
theorem Vu(v:Value)(W:World):(method 390 179 (.agg #[v]) "loop.example/g00272/impl.label").run prog W= .ok (133,.agg #[v]) W:=by kernel_rfl
theorem UR(v:Value)(W:World):(method 390 181 (.agg #[v]) "loop.example/g00272/impl.takes").run prog W= .ok (238,.agg #[v]) W:=by kernel_rfl
theorem VD(v:Value)(W:World):(nilAhead 390 181 (.agg #[v]) "loop.example/g00272/impl.takes").run prog W= .ok (some false) W:=by kernel_rfl
theorem VK(v:Value)(W:World):(method 390 181 (.agg #[v]) "loop.example/g00272/impl.label").run prog W= .ok (133,.agg #[v]) W:=by kernel_rfl
theorem Vp(v:Value)(W:World):(method 390 183 (.agg #[v]) "loop.example/g00272/impl.takes").run prog W= .ok (239,.agg #[v]) W:=by kernel_rfl
theorem VS(v:Value)(W:World):(nilAhead 390 183 (.agg #[v]) "loop.example/g00272/impl.takes").run prog W= .ok (some false) W:=by kernel_rfl
theorem Vs(v:Value)(W:World):(method 390 183 (.agg #[v]) "loop.example/g00272/impl.label").run prog W= .ok (133,.agg #[v]) W:=by kernel_rfl
theorem JD{ops:Array Oper}{o:Oper}{a:Act}{w:World}{K:Act->World->Prop}{Q:Exit->Act->World->Prop}{E:Prop}(hw:Region.wanted o (yielded ops a.tmps)=true)(x:Operand)(nm:String)(ats:Array TypeId)
 (ho:o.op= .call {callee:= .invoke x nm,args:=#[],argTypes:=ats})(T:TypeId)(v r:Value)(f:Nat)(hv:a.eval x= .iface T v)(hm:∀W,(method 390 T v nm).run prog W= .ok (f,r) W)(eg:∀args w,(callFunc f args).run prog w= .ok (.enter f args) w)
 (d:Option Nat)(hd:o.dst=d)(R:Value->World->Prop)(hc:Calls prog f #[r] w fun e w'=>∃v,e= .returned v/\R v w')(h:∀v w',R v w'->K (a.put d v) w'):
 if Region.wanted o (yielded ops a.tmps)=true then Oper.wp prog o a w K Q else E:=by
 rw[if_pos hw];have e:(execOp a.eval o).run prog w= .ok (.enter f #[r]) w:=by
  unfold execOp;simp only[ho,resolve,invoke,callMethod,Sem.run_bind,List.map_toArray,List.map_nil,hv];simp[go_sem,hm,eg]
 unfold Oper.wp;rw[e,Oper.upon_enter];exact hc.mono fun e w' ⟨v,he,hr⟩=>by subst he;rw[hd];exact h v w' hr
theorem Qd{ops:Array Oper}{o:Oper}{a:Act}{w:World}{K:Act->World->Prop}{Q:Exit->Act->World->Prop}{E:Prop}(hw:Region.wanted o (yielded ops a.tmps)=true)(x y:Operand)(nm:String)(ats:Array TypeId)
 (ho:o.op= .call {callee:= .invoke x nm,args:=#[y],argTypes:=ats})(T:TypeId)(v r:Value)(f:Nat)(hv:a.eval x= .iface T v)(hm:∀W,(method 390 T v nm).run prog W= .ok (f,r) W)(eg:∀args w,(callFunc f args).run prog w= .ok (.enter f args) w)(v1:Value)(hv1:a.eval y=v1)
 (d:Option Nat)(hd:o.dst=d)(R:Value->World->Prop)(hc:Calls prog f #[r,v1] w fun e w'=>∃v,e= .returned v/\R v w')(h:∀v w',R v w'->K (a.put d v) w'):
 if Region.wanted o (yielded ops a.tmps)=true then Oper.wp prog o a w K Q else E:=by
 rw[if_pos hw];have e:(execOp a.eval o).run prog w= .ok (.enter f #[r,v1]) w:=by
  unfold execOp;simp only[ho,resolve,invoke,callMethod,Sem.run_bind,List.map_toArray,List.map_cons,List.map_nil,hv,hv1];simp[go_sem,hm,eg]
 unfold Oper.wp;rw[e,Oper.upon_enter];exact hc.mono fun e w' ⟨v,he,hr⟩=>by subst he;rw[hd];exact h v w' hr
end Go.Proofs.YtphddbnadcjhgaaGreatDoor
