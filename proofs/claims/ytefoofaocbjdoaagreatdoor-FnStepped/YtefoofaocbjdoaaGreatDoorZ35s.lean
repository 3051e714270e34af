import Derived.Lib.Join
import Derived.Test.YtefoofaocbjdoaaGreatDoorZ34s
set_option maxRecDepth 100000
set_option maxHeartbeats 16000000
namespace Go.Proofs.YtefoofaocbjdoaaGreatDoor
open Go.RowKit Go.Deep Go.Proofs.Tryz
theorem Iv(x:Int)(w:World)(h0:0<=x)(h1:x<=10000000000):
 Calls prog 20 #[.int .i64 x] w fun e w'=>e= .returned (.string ⟨(CN x.toNat).toArray⟩)/\Below w w w':=by
 obtain⟨n,rfl⟩:=Int.eq_ofNat_of_zero_le h0;exact Jr n w (by omega)
def Fw(f g:Nat->Int)(k:Nat):List (Int×Int):=(List.range k).map fun i=>(f i,g i)
theorem Jb(f g:Nat->Int)(k:Nat):Fw f g (k+1)=Fw f g k++[(f k,g k)]:=by simp[Fw,List.range_succ]
theorem Za(base:Int)(f g:Nat->Int)(k:Nat)(hb:base.toNat<=10000000000)(hc:∀i,i<k->(f i).toNat<=10000000000/\(g i).toNat<=10000000000):(Vp base (Fw f g k)).length<=10000000001+k*20000000010:=by
 induction k with
 |zero=>simp[Vp,Fw];have:=FJ base.toNat;omega
 |succ k ih=>
  rw[Jb,NZ,List.length_append];have:=ih (fun i hi=>hc i (by omega));have h1:=FJ (f k).toNat;have h2:=FJ (g k).toNat;have h3:=hc k (by omega);simp only[MX,List.length_cons,List.length_append];omega
theorem Ui(base:Int)(a:Option Addr)(n cap:Nat)(f g:Nat->Int)(w:World)(hn:n<=12)(hc:Ba w a n f g)(hb:0<=base/\base<=10000000000)(hf:∀i,i<n->0<=f i/\f i<=10000000000)(hg:∀i,i<n->0<=g i/\g i<=10000000000):
 Calls prog 21 #[.agg #[.int .i64 base,.slice a n cap]] w fun e w'=>e= .returned (.string ⟨(Vp base (Fw f g n)).toArray⟩)/\Below w w w':=by
 have n1:No (.cells #[.int .i64 base,.slice a n cap] 30):=⟨⟩;have L0:=(Below.refl _ w).alloc nr n1;have A0:=Ah.new w n1;obtain⟨x1,x2⟩:=A0.two;go_enter func21,ntmps21
 go_wp2_with fail
 refine(Iv base _ hb.1 hb.2).mono ?_;rintro e w1 ⟨rfl,hb1⟩;have A1:=A0.below hb1;have L1:Below w w w1:=L0.trans (hb1.mono L0.size);have hc1:=hc.below L1;clear x1 x2 A0 L0 hb1;go_wp2_with fail
 go_loopw [3,4] (fun s i wr=>∃k:Nat,k<=n/\i= .int .i64 k/\s= .string ⟨(Vp base (Fw f g k)).toArray⟩/\Below w1 w1 wr) (fun _ i _=>n-(intOf i).toNat)
 case atStart=>exact⟨0,Nat.zero_le _,rfl,by simp[Vp,Fw],Below.refl _ _⟩
 case round=>
  obtain⟨k,hk,rfl,rfl,hB⟩:=hrel;have lk:=Za base f g k (by omega) (fun i hi=>by have:=hf i (by omega);have:=hg i (by omega);omega);have Ar:=A1.below hB;obtain⟨x1,x2⟩:=Ar.two;by_cases hlt:k<n
  ·have hki:(k:Int)<(n:Int):=(by omega);obtain⟨b,off,rfl,hbl,hcc⟩:=hc1 (by omega);obtain⟨c1,c2⟩:=hcc k hlt;have g1:wr.cell? ⟨b,off+k*2,none⟩=some (.int .i64 (f k)):=(hB.cell (p:=⟨b,_,none⟩) hbl).trans c1;have g2:wr.cell? ⟨b,off+k*2+1,none⟩=some (.int .i64 (g k)):=(hB.cell (p:=⟨b,_,none⟩) hbl).trans c2;have hf0:=hf k hlt;have hg0:=hg k hlt;have hD1:=FJ (f k).toNat;have hD2:=FJ (g k).toNat;have P1:Hid (∀v:World,Calls prog 20 #[.int .i64 (f k)] v fun e w'=>e= .returned (.string ⟨(CN (f k).toNat).toArray⟩)/\Below v v w'):=fun v=>Iv (f k) v hf0.1 hf0.2;have P2:Hid (∀v:World,Calls prog 20 #[.int .i64 (g k)] v fun e w'=>e= .returned (.string ⟨(CN (g k).toNat).toArray⟩)/\Below v v w'):=fun v=>Iv (g k) v hg0.1 hg0.2;have HT:Hid (Vp base (Fw f g (k+1))=Vp base (Fw f g k)++44::(CN (f k).toNat++58::CN (g k).toNat)):=by
    show _=_;rw[Jb,NZ];rfl
   have Ad:Ah wr.drew w (.cells #[.int .i64 base,.slice (some ⟨b,off,none⟩) n cap] 30):=Ar;have hbd:b<wr.drew.heap.size:=Nat.lt_of_lt_of_le hbl hB.size;have gd1:wr.drew.cell? ⟨b,off+k*2,none⟩=some (.int .i64 (f k)):=g1;have gd2:wr.drew.cell? ⟨b,off+k*2+1,none⟩=some (.int .i64 (g k)):=g2;clear hc hc1 hcc hf hg c1 c2;generalize hT:Vp base (Fw f g k)=T at *;generalize hE1:CN (f k).toNat=D1 at *;generalize hE2:CN (g k).toNat=D2 at *;generalize f k=fk at *;generalize g k=gk at *;have hD1':D1.length<=10000000001:=(by omega);have hD2':D2.length<=10000000001:=(by omega);have lk':T.length<=1000000000000:=(by omega);have r1:¬9223372036854775807<T.length+1:=(by omega);have r2:¬9223372036854775807<T.length+1+D1.length:=(by omega);have r3:¬9223372036854775807<T.length+1+D1.length+1:=(by omega);have r4:¬9223372036854775807<T.length+1+D1.length+1+D2.length:=(by omega);clear hT hE1 hE2 hD1 hD2 lk hf0 hg0;go_wp2_with fail
   go_region_held3(fun w'=>w'.cell? ⟨w,0,none⟩=some (.int .i64 base)/\w'.cell? ⟨w,1,none⟩=some (.slice (some ⟨b,off,none⟩) n cap)/\w'.cell? ⟨b,off+k*2,none⟩=some (.int .i64 fk)/\w'.cell? ⟨b,off+k*2+1,none⟩=some (.int .i64 gk)) (go_keep)
    (first
      |(go_at_call 20;have hq:=hb7;refine(P2 _).mono ?_;rintro e w8 ⟨rfl,hb8⟩;obtain⟨t1,t2⟩:=((Ad.below hb7).below hb8).two;have t3:=(hb8.cell (p:=⟨b,off+k*2,none⟩) (Nat.lt_of_lt_of_le hbd hb7.size)).trans y3;have t4:=(hb8.cell (p:=⟨b,off+k*2+1,none⟩) (Nat.lt_of_lt_of_le hbd hb7.size)).trans y4)
      |(go_at_call 20;refine(P1 _).mono ?_;rintro e w7 ⟨rfl,hb7⟩;obtain⟨y1,y2⟩:=(Ad.below hb7).two;have y3:=(hb7.cell (p:=⟨b,off+k*2,none⟩) hbd).trans gd1;have y4:=(hb7.cell (p:=⟨b,off+k*2+1,none⟩) hbd).trans gd2))
   go_wp2;go_roundw;case rel=>
    refine⟨k+1,by omega,by go_num,?_,(hB.drew.trans (hb7.mono hB.size)).trans (hb8.mono (Nat.le_trans hB.size hb7.size))⟩;have ea:(⟨#[44]⟩:ByteArray)=⟨[44].toArray⟩:=rfl;have eb:(⟨#[58]⟩:ByteArray)=⟨[58].toArray⟩:=rfl;rw[ea,eb,GN,GN,GN,GN,HT.out];simp
   case measure=>simp[intOf];omega
  ·have hki:¬(k:Int)<(n:Int):=(by omega);have ek:k=n:=(by omega);subst ek;go_wp2;go_ret;exact⟨rfl,L1.trans (hB.mono L1.size)⟩
open Go.Maps
def bi(b:Int):Option (List (Int×Int))->Int×List (Int×Int)×Bool
 |some cats=>if AZ b cats.length (CS cats) (CY cats)=true then(b,cats,true)else(0,[],false)
 |none=>(0,[],false)
theorem Bi.nil(w:World)(B:Nat):Bi w B (.slice none 0 0) []:=AL.nil _ _ _ _
open Go
theorem JP{k:Ax}(h:Bd k=true):Ch k.on k.O=true:=by
 simp only[Bd,Bool.and_eq_true]at h;exact h.1.1.1.2
theorem Zi{k:Ax}(h:Bd k=true){c:Nat}(hc:c<k.on)(h0:c≠0):∃u,Bl (fun i=>(k.O i).id) k.on (k.O c).up=some u:=by
 have hp:Ie k.on k.O=true:=by
  simp only[Bd,Bool.and_eq_true]at h;exact h.1.2
 have hu:=Fu hp (c-1) (by omega);have e:c-1+1=c:=by omega
 simp only[e]at hu;unfold FF at hu;split at hu
 ·rename_i u hu';exact⟨u,hu'⟩
 ·cases hu
variable {b:Int}{c:Au}{t:Ae}{o:Ab}{ks:List Int}{n i:Nat}{k:Ax}
theorem QT(k:Nat):∀n,n<10^(k+1)->(CN n).length<=k+1:=by
 induction k with
 |zero=>intro n h;rw[GX (by simpa using h)];simp
 |succ k ih=>
  intro n h;by_cases hs:n<10
  ·rw[GX hs];simp
  ·rw[Kp hs,List.length_append];have:=ih (n/10) (by rw[Nat.pow_succ]at h;omega);simp;omega
def dc(x:Int):List UInt8:=CN x.toNat
def lb(b:Int)(c:Au):List UInt8:=Vp b (Fw c.f c.g c.n)
def bl(ns:List Int):List UInt8:=(ns.map fun x=>32::dc x).flatten
def Fp(c:AI):List Int:=(List.range c.n).map c.h
theorem Ze(ns:List Int)(x:Int):bl (ns++[x])=bl ns++32::dc x:=by simp[bl]
def small(x:Int):Prop:=0<=x/\x<=9999
theorem Fx{x:Int}(h:small x):(dc x).length<=4:=QT 3 _ (by have:=h.2;have:=h.1;show x.toNat<10000;omega)
theorem LF{ns:List Int}(h:∀x∈ns,small x):(bl ns).length<=5*ns.length:=by
 induction ns with
 |nil=>simp[bl]
 |cons x ns ih=>
  have h1:=ih (fun y hy=>h y (List.mem_cons_of_mem _ hy));have h2:=Fx (h x (List.mem_cons_self ..));have e:bl (x::ns)=(32::dc x)++bl ns:=by simp[bl]
  rw[e,List.length_append,List.length_cons,List.length_cons];omega
theorem Qj(h:AZ b c.n c.f c.g=true):small b/\c.n<=12/\∀i,i<c.n->small (c.f i)/\small (c.g i):=by
 obtain⟨h1,h2,h3⟩:=JG h;have h1':=CF.1 h1;refine⟨⟨h1'.1,by have:=h1'.2;omega⟩,h2,fun i hi=>?_⟩;have:=h3 i hi;simp only[Dj,Bool.and_eq_true]at this;have f1:=CF.1 this.1.1.1;have g1:=CF.1 this.1.1.2;exact⟨⟨by omega,f1.2⟩,⟨g1.1,by omega⟩⟩
theorem IP(h:AZ b c.n c.f c.g=true):(lb b c).length<=200:=by
 obtain⟨h1,h2,h3⟩:=Qj h;have key:∀k,k<=c.n->(Vp b (Fw c.f c.g k)).length<=4+k*10:=fun k=>by
  induction k with
  |zero=>intro _;simp[Vp,Fw];exact Fx h1
  |succ k ih=>
   intro hk;have:=ih (by omega);have d1:=Fx (h3 k (by omega)).1;have d2:=Fx (h3 k (by omega)).2;unfold dc at d1 d2;rw[Jb,NZ,List.length_append];simp only[MX,List.length_cons,List.length_append];omega
 have:=key c.n nr;unfold lb;omega
theorem Do{c:AI}(h:BJ c.n c.h=true):c.n<=10/\∀x∈Fp c,small x:=by
 obtain⟨h1,h2⟩:=PY h;refine⟨h1,fun x hx=>?_⟩;unfold Fp at hx;obtain⟨i,hi,rfl⟩:=List.mem_map.1 hx;have:=h2 i (List.mem_range.1 hi);simp only[Dz,Bool.and_eq_true]at this;have f1:=CF.1 this.1;exact⟨by omega,f1.2⟩
theorem Jz(c:AI):(Fp c).length=c.n:=by simp[Fp]
def ZX:List UInt8:=[116,104,114,101,97,100]
def Zz:List UInt8:=[111,98,106,101,99,116]
def bB:List UInt8:=[100,97,116,97]
def XT:List UInt8:=[105,116,101,109]
def JM(ws:List (List UInt8)):List UInt8:=Lib.join ws [32]++[10]
def Oy(t:Ae):List UInt8:=JM ([ZX,dc t.id,lb t.b1 t.c1,lb t.b2 t.c2,dc t.made]++(Fp t.own).map dc)
def Ii(o:Ab)(ks:List Int):List UInt8:=JM ([Zz,dc o.id,dc o.kind,dc o.up,lb o.b1 o.c1,lb o.b2 o.c2]++(Fp o.own).map dc++ks.map dc)
def IU(d:ByteArray):List UInt8:=if d.toList.isEmpty=true then[]else JM [bB,d.data.toList]
def Hu(f:Nat->ByteArray)(j:Nat):List UInt8:=((List.range j).map fun i=>JM [XT,(f i).data.toList]).flatten
theorem Lz(f:Nat->ByteArray)(j:Nat):Hu f (j+1)=Hu f j++JM [XT,(f j).data.toList]:=by simp[Hu,List.range_succ]
def objT(o:Ab)(ks:List Int):List UInt8:=Ii o ks++IU o.data++Hu o.jA.f o.jA.n
def Ep(T:Nat->Ae)(n:Nat):List UInt8:=((List.range n).map fun i=>Oy (T i)).flatten
def Fl(O:Nat->Ab)(n:Nat):List UInt8:=((List.range n).map fun i=>objT (O i) []).flatten
theorem Oc(T:Nat->Ae)(n:Nat):Ep T (n+1)=Ep T n++Oy (T n):=by simp[Ep,List.range_succ]
theorem N0(O:Nat->Ab)(n:Nat):Fl O (n+1)=Fl O n++objT (O n) []:=by simp[Fl,List.range_succ]
def Gd(k:Ax):ByteArray:=if Bd k=true then⟨(Ep k.T k.tn++Fl k.O k.on).toArray⟩else⟨#[]⟩
theorem Sg(t:Ae):Oy t=ZX++[32]++dc t.id++[32]++lb t.b1 t.c1++[32]++lb t.b2 t.c2++[32]++dc t.made++bl (Fp t.own)++[10]:=by
 unfold Oy JM;rw[List.cons_append,Lib.join_cons];simp[Lib.joinTail,bl,Function.comp_def]
theorem RN(o:Ab)(ks:List Int):Ii o ks=Zz++[32]++dc o.id++[32]++dc o.kind++[32]++dc o.up++[32]++lb o.b1 o.c1++[32]++lb o.b2 o.c2++bl (Fp o.own)++bl ks++[10]:=by
 unfold Ii JM;rw[List.cons_append,List.cons_append,Lib.join_cons];simp[Lib.joinTail,bl,Function.comp_def]
theorem Kh(a b:List UInt8):JM [a,b]=a++[32]++b++[10]:=by
 unfold JM;rw[Lib.join_cons];simp[Lib.joinTail]
theorem Ls(h:CI t=true):small t.id/\small t.made/\AZ t.b1 t.c1.n t.c1.f t.c1.g=true/\AZ t.b2 t.c2.n t.c2.f t.c2.g=true/\BJ t.own.n t.own.h=true:=by
 simp only[CI,Dq,Bool.and_eq_true]at h;have h1:=CF.1 h.1.1.1.1;have h5:=CF.1 h.2;exact⟨⟨by omega,by omega⟩,⟨h5.1,by omega⟩,h.1.1.1.2,h.1.1.2,h.1.2⟩
theorem Yx(h:CI t=true):(Oy t).length<=1000:=by
 obtain⟨h1,h2,h3,h4,h5⟩:=Ls h;have d1:=Fx h1;have d2:=Fx h2;have d3:=IP h3;have d4:=IP h4;have d5:=LF (Do h5).2;have d6:=(Do h5).1;rw[Jz]at d5;rw[Sg];simp only[List.length_append,ZX,List.length_cons,List.length_nil];omega
theorem Le(h:Cq o=true):AZ o.b1 o.c1.n o.c1.f o.c1.g=true/\AZ o.b2 o.c2.n o.c2.f o.c2.g=true/\BJ o.own.n o.own.h=true/\o.data.size<=40/\o.jA.n<=8/\(∀i,i<o.jA.n->(o.jA.f i).size<=40)/\small o.kind:=by
 simp only[Cq,Bool.and_eq_true]at h;obtain⟨⟨⟨⟨⟨h1,h2⟩,h3⟩,h4⟩,h5⟩,h6⟩:=h;obtain⟨i1,i2⟩:=UV h5;have p:∀{s:ByteArray},Br s 40=true->s.size<=40:=fun hs=>by
  simp only[Br,Bool.and_eq_true,decide_eq_true_eq]at hs;omega
 refine⟨h1,h2,h3,p h4,i1,fun i hi=>p (i2 i hi),?_⟩;unfold GU at h6;unfold small;split at h6
 ·omega
 ·split at h6
  ·omega
  ·split at h6
   ·omega
   ·split at h6
    ·omega
    ·cases h6
theorem Te(h:Cq o=true)(h1:small o.id)(h2:small o.up)(hk:∀x∈ks,small x)(hn:ks.length<=271):(Ii o ks).length<=3000:=by
 obtain⟨p1,p2,p3,p4,p5,p6,p7⟩:=Le h;have d1:=Fx h1;have d2:=Fx h2;have d3:=Fx p7;have d4:=IP p1;have d5:=IP p2;have d6:=LF (Do p3).2;have d7:=(Do p3).1;have d8:=LF hk;rw[Jz]at d6;rw[RN];simp only[List.length_append,Zz,List.length_cons,List.length_nil];omega
theorem Rs{d:ByteArray}(h:d.size<=40):(IU d).length<=50:=by
 unfold IU;split
 ·simp
 ·rw[Kh];have:d.data.toList.length=d.size:=Array.length_toList;simp only[List.length_append,bB,List.length_cons,List.length_nil];omega
theorem SQ{f:Nat->ByteArray}(h:∀i,i<n->(f i).size<=40):(Hu f n).length<=50*n:=by
 induction n with
 |zero=>simp[Hu]
 |succ n ih=>
  have h1:=ih (fun i hi=>h i (by omega));have h2:=h n (by omega);have:(f n).data.toList.length=(f n).size:=Array.length_toList;rw[Lz,List.length_append,Kh];simp only[List.length_append,XT,List.length_cons,List.length_nil];omega
theorem Rf(h:Bd k=true)(hi:i<k.on):small (k.O i).id:=by
 have hp:=h;simp only[Bd,Bool.and_eq_true]at hp;obtain⟨⟨⟨⟨ht,ho⟩,hn⟩,_⟩,_⟩:=hp;by_cases h0:i=0
 ·subst h0;rw[(Cl ho).1];exact⟨by omega,by omega⟩
 ·have ha:=Fu hn (i-1) (by omega);have e:i-1+1=i:=by omega
  simp only[e]at ha;have hpos:=Ea ho i hi;cases hf:Bl (fun j=>(k.T j).id) k.tn ((k.O i).id/1000)with
  |none=>rw[JU ht hf]at ha;cases ha
  |some t=>
   rw[IE ht hf]at ha;obtain⟨t1,t2⟩:=AE hf;have t3:=(CL ht).2.2 t t1;simp only[DT,Bool.and_eq_true]at t3;obtain⟨s1,s2,_⟩:=Ls t3.1;have a1:=CF.1 ha;have t2':(k.T t).id=(k.O i).id/1000:=t2;have hid:(k.T t).id<=9:=by
    have:=t3.1;simp only[CI,Dq,Bool.and_eq_true]at this;exact(CF.1 this.1.1.1.1).2
   exact⟨by omega,by omega⟩
theorem YP(h:Bd k=true)(hi:i<k.on):small (k.O i).up:=by
 by_cases h0:i=0
 ·subst h0;rw[(Cl (JP h)).2.2];exact⟨by omega,by omega⟩
 ·obtain⟨u,hu⟩:=Zi h hi h0;obtain⟨u1,u2⟩:=AE hu;have u2':(k.O u).id=(k.O i).up:=u2;rw[<-u2'];exact Rf h u1
theorem Q7(h:Bd k=true)(hi:i<k.tn):CI (k.T i)=true:=by
 simp only[Bd,Bool.and_eq_true]at h;have:=(CL h.1.1.1.1).2.2 i hi;simp only[DT,Bool.and_eq_true]at this;exact this.1
theorem QH(h:Bd k=true)(hi:i<k.on):Cq (k.O i)=true:=by
 have:=(Cj (JP h)).2.2.1 i hi;simp only[FH,Bool.and_eq_true]at this;exact this.1
theorem Xd(h:Bd k=true):1<=k.tn/\k.tn<=9/\k.on<=271:=by
 have h2:=(Cj (JP h)).2.1;simp only[Bd,Bool.and_eq_true]at h;have h1:=CL h.1.1.1.1;exact⟨h1.1,h1.2.1,h2⟩
theorem PM{T:Nat->Ae}(h:∀i,i<n->CI (T i)=true):(Ep T n).length<=1000*n:=by
 induction n with
 |zero=>simp[Ep]
 |succ n ih=>
  have h1:=ih (fun i hi=>h i (by omega));have h2:=Yx (h n (by omega));rw[Oc,List.length_append];omega
theorem XE(h:Cq o=true)(h1:small o.id)(h2:small o.up)(hk:∀x∈ks,small x)(hn:ks.length<=271):(objT o ks).length<=4000:=by
 obtain⟨_,_,_,p4,p5,p6,_⟩:=Le h;have d1:=Te h h1 h2 hk hn;have d2:=Rs p4;have d3:=SQ p6;unfold objT;simp only[List.length_append];omega
theorem VS(h:Bd k=true)(hn:n<=k.on):(Fl k.O n).length<=4000*n:=by
 induction n with
 |zero=>simp[Fl]
 |succ n ih=>
  have h1:=ih (by omega);have h2:=XE (ks:=[]) (QH h (i:=n) (by omega)) (Rf h (by omega)) (YP h (by omega)) (fun x hx=>by cases hx) (by simp);rw[N0,List.length_append];omega
theorem Vr(x:Ae):Oy x.nm=Oy x:=rfl
theorem Vo(x:Ab):objT x.nm []=objT x []:=rfl
section
variable {ta oa ta1 oa1 ta2 oa2 ta3 oa3 ta4 oa4:Option Addr}{ca co ca1 co1 ca2 co2 ca3 co3 ca4 co4:Nat}{lt lt1 lt2 cG lt4 lt5:List Ae}{lo lo1 lo2 lo3 lo4 lo5:List Ab}{s:Al}{x1 x2 x3 x4 x5:ByteArray}{d e f g:Int}
end
def Ax.wfs(k:Ax):Prop:=∀i,i<k.on->(Lit.int .i64 (k.O i).id).wf=true/\(Lit.int .i64 (k.O i).up).wf=true
theorem Ax.same.wfs{k l:Ax}(h:k.same l)(hw:k.wfs):l.wfs:=fun i hi=>by
 obtain⟨h1,h2,h3,h4⟩:=h;rw[h3]at hi;rw[(h4 i hi).1,(h4 i hi).2.2.1];exact hw i hi
theorem Ax.row.below{w w':World}{k:Ax}(h:k.row w)(hb:Below w w w'):k.row w':=⟨h.1.below hb,h.2.below hb⟩
def Ax.cells(k:Ax):Array Value:=#[.slice k.ta k.tn k.tk,.slice k.oa k.on k.ok]
open Go.BigFrame Go.Shelf
theorem Dd(a:Array UInt8):(ByteArray.mk a).size=a.size:=rfl
theorem Tu{a b:ByteArray}(h:a=b):Ending.returned (.string a)= .returned (.string b):=by rw[h]
theorem Qk(x:Int)(w:World)(h:small x):Calls prog 20 #[.int .i64 x] w fun e w'=>e= .returned (.string ⟨(dc x).toArray⟩)/\Below w w w':=
 Iv x w h.1 (by have:=h.2;omega)
theorem Vl(b:Int)(c:Au)(w:World)(hc:c.at w)(h:AZ b c.n c.f c.g=true):Calls prog 21 #[.agg #[.int .i64 b,c.val]] w fun e w'=>e= .returned (.string ⟨(lb b c).toArray⟩)/\Below w w w':=by
 obtain⟨h1,h2,h3⟩:=Qj h;exact Ui b c.a c.n c.k c.f c.g w h2 hc.2 ⟨h1.1,by have:=h1.2;omega⟩ (fun i hi=>⟨(h3 i hi).1.1,by have:=(h3 i hi).1.2;omega⟩) (fun i hi=>⟨(h3 i hi).2.1,by have:=(h3 i hi).2.2;omega⟩)
theorem Od(c:AI)(w:World)(hc:c.at w)(hs:∀i,i<c.n->small (c.h i))(hn:c.n<=1000):
 Calls prog 22 #[c.val] w fun e w'=>e= .returned (.string ⟨(bl (Fp c)).toArray⟩)/\Below w w w':=by
 obtain⟨a,n,cap,h⟩:=c;simp only at hs hn;have HC:=hid hc.2;simp only at HC;unfold AI.val Fp;simp only;have HS:=hid hs;clear hc hs;go_enter func22,ntmps22
 go_wp2;go_loopw [3,4] (fun s i wr=>∃q:Nat,q<=n/\i= .int .i64 q/\s= .string ⟨(bl ((List.range q).map h)).toArray⟩/\Below w w wr) (fun _ i _=>n-(intOf i).toNat)
 case atStart=>exact⟨0,Nat.zero_le _,rfl,rfl,Below.refl _ _⟩
 case round=>
  obtain⟨q,hq,rfl,rfl,hB⟩:=hrel;by_cases hlt:q<n
  ·obtain⟨b,off,rfl,hbl,hcc⟩:=HC.out (by omega);have c1:=(hB.cell (p:=⟨b,off+q,none⟩) hbl).trans (hcc q hlt);have i1:(q:Int)<(n:Int):=(by omega);have D:=hid (Qk (h q) wr (HS q hlt));have EX:Hid ((⟨(bl ((List.range (q+1)).map h)).toArray⟩:ByteArray)=⟨(bl ((List.range q).map h)).toArray⟩++ByteArray.mk #[32]++⟨(dc (h q)).toArray⟩):=hid (by
    rw[List.range_succ,List.map_append,List.map_cons,List.map_nil,Ze];have e1:ByteArray.mk #[32]=⟨[32].toArray⟩:=rfl;rw[e1,GN,GN];simp)
   have l1:=LF (ns:=(List.range q).map h) (fun x hx=>by obtain⟨i,hi,rfl⟩:=List.mem_map.1 hx;exact HS.out i (by have:=List.mem_range.1 hi;omega));have l2:=Fx (HS q hlt);have s1:(⟨(bl ((List.range q).map h)).toArray⟩:ByteArray).size<=100000:=(by rw[Dd,List.size_toArray];simp at l1;omega);have s2:(⟨(dc (h q)).toArray⟩:ByteArray).size<=4:=(by rw[Dd,List.size_toArray];exact l2);clear hcc l1 l2;generalize (⟨(bl ((List.range q).map h)).toArray⟩:ByteArray)=S at *;generalize (⟨(dc (h q)).toArray⟩:ByteArray)=D1 at *;have Jw:(ByteArray.mk #[32]).size=1:=rfl;have r1:¬9223372036854775807<S.size+(ByteArray.mk #[32]).size:=(by omega);have r2:¬9223372036854775807<(S++ByteArray.mk #[32]).size+D1.size:=(by rw[ByteArray.size_append];omega);clear Jw;go_wp2_with fail
   refine D.out.mono ?_;rintro e w2 ⟨rfl,b2⟩;have B2:=Af hB b2;clear b2 D c1;go_wp2;exact⟨⟨q+1,by omega,by go_num,by rw[EX.out],B2⟩,by simp[intOf];omega⟩
  ·have i1:¬(q:Int)<(n:Int):=(by omega);obtain rfl:q=n:=by omega
   go_wp2;go_ret;exact⟨rfl,hB⟩
theorem aW(t:Ae)(P:Nat)(S D1 D2 X1 X2 BL:ByteArray)(u0 u1 u2 u4 u6 u7 u8 u9 u10 u11 u12 u13 u14 u15 u16 u17 u18 u19 u20 u21 u22 u23 u24 u25 u26 u27 u28 u29 u30 u31 u32 u33 u34 u35 u36 u37 u38 u39 u40 u41 u42 u43 u44 u45 u46 u47 u48 u49 u50 u51 u52 u53 u54 u55 u56 u57 u58 u59 u60 u61 u62 u63 u64 u65 u66 u67 u68 u69 u70 u71 u72 u73 u74 u75 u76 u77 u78 u79 u80 u81 u82 u83 u84 u85 u86 u87 u88 u89 u90 u91 u92 u93 u94 u95 u96 u97 u98 u99 u100 u101 u102 u103 u104 u105 u106 u107 u108 u109 u110 u111 u112 u113 u114 u115 u116 u117 u118:Value)(V:World)(Q:Exit->Act->World->Prop)(hp:∀c a d v w,Q (.panic c) (Act.put a (some d) v) w->Q (.panic c) a w)
 (ED:∀args w,(callFunc 20 args).run prog w= .ok (.enter 20 args) w)(EX:∀args w,(callFunc 21 args).run prog w= .ok (.enter 21 args) w)(EL:∀args w,(callFunc 22 args).run prog w= .ok (.enter 22 args) w)(HA:∀W,Below V V W->Ah W P (.cells t 57))(PD1:∀W,Below V V W->Calls prog 20 #[t.id] W fun e w'=>∃v,e= .returned v/\v= .string D1/\Below W W w')(PX1:∀W,Below V V W->Calls prog 21 #[.agg #[t.b1,t.c1]] W fun e w'=>∃v,e= .returned v/\v= .string X1/\Below W W w')(PX2:∀W,Below V V W->Calls prog 21 #[.agg #[t.b2,t.c2]] W fun e w'=>∃v,e= .returned v/\v= .string X2/\Below W W w')(PD2:∀W,Below V V W->Calls prog 20 #[t.made] W fun e w'=>∃v,e= .returned v/\v= .string D2/\Below W W w')(PB:∀W,Below V V W->Calls prog 22 #[t.own] W fun e w'=>∃v,e= .returned v/\v= .string BL/\Below W W w')(z0:S.size<=3000000)(z1:D1.size<=4)(z2:D2.size<=4)(z3:X1.size<=200)(z4:X2.size<=200)(z5:BL.size<=2000)
 (hQ:∀W,Below V V W->Q .normal ⟨#[u0,u1,u2,.string (S++(ByteArray.mk #[116,104,114,101,97,100,32])++D1++(ByteArray.mk #[32])++X1++(ByteArray.mk #[32])++X2++(ByteArray.mk #[32])++D2++BL++(ByteArray.mk #[10])),u4,.pointer P,u6,u7,u8,u9,u10,u11,u12,u13,u14,u15,u16,u17,u18,u19,u20,u21,u22,u23,.string S,.string (S++(ByteArray.mk #[116,104,114,101,97,100,32])),.pointer P,(t.id:Value),.string D1,.string (S++(ByteArray.mk #[116,104,114,101,97,100,32])++D1),.string (S++(ByteArray.mk #[116,104,114,101,97,100,32])++D1++(ByteArray.mk #[32])),.pointer (some ⟨P,1,none⟩),.agg #[t.b1,t.c1],.string X1,.string (S++(ByteArray.mk #[116,104,114,101,97,100,32])++D1++(ByteArray.mk #[32])++X1),.string (S++(ByteArray.mk #[116,104,114,101,97,100,32])++D1++(ByteArray.mk #[32])++X1++(ByteArray.mk #[32])),.pointer (some ⟨P,3,none⟩),.agg #[t.b2,t.c2],.string X2,.string (S++(ByteArray.mk #[116,104,114,101,97,100,32])++D1++(ByteArray.mk #[32])++X1++(ByteArray.mk #[32])++X2),.string (S++(ByteArray.mk #[116,104,114,101,97,100,32])++D1++(ByteArray.mk #[32])++X1++(ByteArray.mk #[32])++X2++(ByteArray.mk #[32])),.pointer (some ⟨P,6,none⟩),(t.made:Value),.string D2,.string (S++(ByteArray.mk #[116,104,114,101,97,100,32])++D1++(ByteArray.mk #[32])++X1++(ByteArray.mk #[32])++X2++(ByteArray.mk #[32])++D2),.pointer (some ⟨P,5,none⟩),(t.own:Value),.string BL,.string (S++(ByteArray.mk #[116,104,114,101,97,100,32])++D1++(ByteArray.mk #[32])++X1++(ByteArray.mk #[32])++X2++(ByteArray.mk #[32])++D2++BL),.string (S++(ByteArray.mk #[116,104,114,101,97,100,32])++D1++(ByteArray.mk #[32])++X1++(ByteArray.mk #[32])++X2++(ByteArray.mk #[32])++D2++BL++(ByteArray.mk #[10])),u50,u51,u52,u53,u54,u55,u56,u57,u58,u59,u60,u61,u62,u63,u64,u65,u66,u67,u68,u69,u70,u71,u72,u73,u74,u75,u76,u77,u78,u79,u80,u81,u82,u83,u84,u85,u86,u87,u88,u89,u90,u91,u92,u93,u94,u95,u96,u97,u98,u99,u100,u101,u102,u103,u104,u105,u106,u107,u108,u109,u110,u111,u112,u113,u114,u115,u116,u117,u118],[]⟩ W):
 Code.wp prog (Code.region 8 #[{dst:=some 24,op:=Op.move (Operand.tmp 3),type:=9,pos:= "l10_texts.go:45",after:=#[],guard:=none},{dst:=some 25,op:=Op.binOp BinOp.add 9 (Operand.tmp 24) (Operand.const (Value.string {data:=#[116,104,114,101,97,100,32]})) 9,type:=9,pos:= "l10_texts.go:45",after:=#[{on:=0,ground:=Ground.data}],guard:=none},{dst:=some 26,op:=Op.fieldAddr 57 (Operand.tmp 5) 0,type:=0,pos:= "l10_texts.go:45",after:=#[],guard:=none},{dst:=some 27,op:=Op.load 2 (Operand.tmp 26),type:=2,pos:= "l10_texts.go:45",after:=#[{on:=2,ground:=Ground.data}],guard:=none},{dst:=some 28,op:=Op.call {callee:=Callee.value (Operand.func 20),args:=#[Operand.tmp 27],argTypes:=#[2]},type:=9,pos:= "l10_texts.go:45",after:=#[{on:=3,ground:=Ground.data}],guard:=none},{dst:=some 29,op:=Op.binOp BinOp.add 9 (Operand.tmp 25) (Operand.tmp 28) 9,type:=9,pos:= "l10_texts.go:45",after:=#[{on:=1,ground:=Ground.data},{on:=4,ground:=Ground.data}],guard:=none},{dst:=some 30,op:=Op.binOp BinOp.add 9 (Operand.tmp 29) (Operand.const (Value.string {data:=#[32]})) 9,type:=9,pos:= "l10_texts.go:45",after:=#[{on:=5,ground:=Ground.data}],guard:=none},{dst:=some 31,op:=Op.fieldAddr 57 (Operand.tmp 5) 1,type:=0,pos:= "l10_texts.go:45",after:=#[],guard:=none},{dst:=some 32,op:=Op.load 30 (Operand.tmp 31),type:=30,pos:= "l10_texts.go:45",after:=#[{on:=7,ground:=Ground.data}],guard:=none},{dst:=some 33,op:=Op.call {callee:=Callee.value (Operand.func 21),args:=#[Operand.tmp 32],argTypes:=#[30]},type:=9,pos:= "l10_texts.go:45",after:=#[{on:=8,ground:=Ground.data},{on:=4,ground:=Ground.chain}],guard:=none},{dst:=some 34,op:=Op.binOp BinOp.add 9 (Operand.tmp 30) (Operand.tmp 33) 9,type:=9,pos:= "l10_texts.go:45",after:=#[{on:=6,ground:=Ground.data},{on:=9,ground:=Ground.data}],guard:=none},{dst:=some 35,op:=Op.binOp BinOp.add 9 (Operand.tmp 34) (Operand.const (Value.string {data:=#[32]})) 9,type:=9,pos:= "l10_texts.go:45",after:=#[{on:=10,ground:=Ground.data}],guard:=none},{dst:=some 36,op:=Op.fieldAddr 57 (Operand.tmp 5) 2,type:=0,pos:= "l10_texts.go:45",after:=#[],guard:=none},{dst:=some 37,op:=Op.load 30 (Operand.tmp 36),type:=30,pos:= "l10_texts.go:45",after:=#[{on:=12,ground:=Ground.data}],guard:=none},{dst:=some 38,op:=Op.call {callee:=Callee.value (Operand.func 21),args:=#[Operand.tmp 37],argTypes:=#[30]},type:=9,pos:= "l10_texts.go:45",after:=#[{on:=13,ground:=Ground.data},{on:=9,ground:=Ground.chain}],guard:=none},{dst:=some 39,op:=Op.binOp BinOp.add 9 (Operand.tmp 35) (Operand.tmp 38) 9,type:=9,pos:= "l10_texts.go:45",after:=#[{on:=11,ground:=Ground.data},{on:=14,ground:=Ground.data}],guard:=none},{dst:=some 40,op:=Op.binOp BinOp.add 9 (Operand.tmp 39) (Operand.const (Value.string {data:=#[32]})) 9,type:=9,pos:= "l10_texts.go:45",after:=#[{on:=15,ground:=Ground.data}],guard:=none},{dst:=some 41,op:=Op.fieldAddr 57 (Operand.tmp 5) 4,type:=0,pos:= "l10_texts.go:45",after:=#[],guard:=none},{dst:=some 42,op:=Op.load 2 (Operand.tmp 41),type:=2,pos:= "l10_texts.go:45",after:=#[{on:=17,ground:=Ground.data}],guard:=none},{dst:=some 43,op:=Op.call {callee:=Callee.value (Operand.func 20),args:=#[Operand.tmp 42],argTypes:=#[2]},type:=9,pos:= "l10_texts.go:45",after:=#[{on:=18,ground:=Ground.data},{on:=14,ground:=Ground.chain}],guard:=none},{dst:=some 44,op:=Op.binOp BinOp.add 9 (Operand.tmp 40) (Operand.tmp 43) 9,type:=9,pos:= "l10_texts.go:45",after:=#[{on:=16,ground:=Ground.data},{on:=19,ground:=Ground.data}],guard:=none},{dst:=some 45,op:=Op.fieldAddr 57 (Operand.tmp 5) 3,type:=0,pos:= "l10_texts.go:45",after:=#[],guard:=none},{dst:=some 46,op:=Op.load 55 (Operand.tmp 45),type:=55,pos:= "l10_texts.go:45",after:=#[{on:=21,ground:=Ground.data}],guard:=none},{dst:=some 47,op:=Op.call {callee:=Callee.value (Operand.func 22),args:=#[Operand.tmp 46],argTypes:=#[55]},type:=9,pos:= "l10_texts.go:45",after:=#[{on:=22,ground:=Ground.data},{on:=19,ground:=Ground.chain}],guard:=none},{dst:=some 48,op:=Op.binOp BinOp.add 9 (Operand.tmp 44) (Operand.tmp 47) 9,type:=9,pos:= "l10_texts.go:45",after:=#[{on:=20,ground:=Ground.data},{on:=23,ground:=Ground.data}],guard:=none},{dst:=some 49,op:=Op.binOp BinOp.add 9 (Operand.tmp 48) (Operand.const (Value.string {data:=#[10]})) 9,type:=9,pos:= "l10_texts.go:45",after:=#[{on:=24,ground:=Ground.data}],guard:=none},{dst:=some 3,op:=Op.assign (Operand.tmp 49),type:=9,pos:= "l10_texts.go:45",after:=#[{on:=25,ground:=Ground.data},{on:=23,ground:=Ground.chain},{on:=0,ground:=Ground.phase},{on:=1,ground:=Ground.phase},{on:=2,ground:=Ground.phase},{on:=3,ground:=Ground.phase},{on:=4,ground:=Ground.phase},{on:=5,ground:=Ground.phase},{on:=6,ground:=Ground.phase},{on:=7,ground:=Ground.phase},{on:=8,ground:=Ground.phase},{on:=9,ground:=Ground.phase},{on:=10,ground:=Ground.phase},{on:=11,ground:=Ground.phase},{on:=12,ground:=Ground.phase},{on:=13,ground:=Ground.phase},{on:=14,ground:=Ground.phase},{on:=15,ground:=Ground.phase},{on:=16,ground:=Ground.phase},{on:=17,ground:=Ground.phase},{on:=18,ground:=Ground.phase},{on:=19,ground:=Ground.phase},{on:=20,ground:=Ground.phase},{on:=21,ground:=Ground.phase},{on:=22,ground:=Ground.phase},{on:=23,ground:=Ground.phase},{on:=24,ground:=Ground.phase},{on:=25,ground:=Ground.phase}],guard:=none}] true) Q ⟨#[u0,u1,u2,.string S,u4,.pointer P,u6,u7,u8,u9,u10,u11,u12,u13,u14,u15,u16,u17,u18,u19,u20,u21,u22,u23,u24,u25,u26,u27,u28,u29,u30,u31,u32,u33,u34,u35,u36,u37,u38,u39,u40,u41,u42,u43,u44,u45,u46,u47,u48,u49,u50,u51,u52,u53,u54,u55,u56,u57,u58,u59,u60,u61,u62,u63,u64,u65,u66,u67,u68,u69,u70,u71,u72,u73,u74,u75,u76,u77,u78,u79,u80,u81,u82,u83,u84,u85,u86,u87,u88,u89,u90,u91,u92,u93,u94,u95,u96,u97,u98,u99,u100,u101,u102,u103,u104,u105,u106,u107,u108,u109,u110,u111,u112,u113,u114,u115,u116,u117,u118],[]⟩ V:=by
 have V0:Below V V V.drew:=(Below.refl _ V).drew;refine Am 27 (fun W=>Below V V W) (by kernel_rfl) ?_;refine tr 0 24 (.string S) V0 ?_ (hQ:=(fun c a w h=>hp c a _ _ w h));refine tr 1 25 (.string (S++(ByteArray.mk #[116,104,114,101,97,100,32]))) V0 ?_ (hy:=fun W h=>by go_simp;omega) (hQ:=(fun c a w h=>hp c a _ _ w h));refine tr 2 26 (.pointer P) V0 ?_ (hQ:=(fun c a w h=>hp c a _ _ w h));refine tr 3 27 (.int .i64 t.id) V0 ?_ (hy:=fun W h=>by obtain⟨q0,q1,q2,q3,q4,q5,q6⟩:=(HA W h).sevenF;go_simp) (hQ:=(fun c a w h=>hp c a _ _ w h));refine tr 7 31 (.pointer (some ⟨P,1,none⟩)) V0 ?_ (hQ:=(fun c a w h=>hp c a _ _ w h));refine tr 8 32 (.agg #[t.b1,t.c1]) V0 ?_ (hy:=fun W h=>by obtain⟨q0,q1,q2,q3,q4,q5,q6⟩:=(HA W h).sevenF;go_simp) (hQ:=(fun c a w h=>hp c a _ _ w h));refine tr 12 36 (.pointer (some ⟨P,3,none⟩)) V0 ?_ (hQ:=(fun c a w h=>hp c a _ _ w h));refine tr 13 37 (.agg #[t.b2,t.c2]) V0 ?_ (hy:=fun W h=>by obtain⟨q0,q1,q2,q3,q4,q5,q6⟩:=(HA W h).sevenF;go_simp) (hQ:=(fun c a w h=>hp c a _ _ w h));refine tr 17 41 (.pointer (some ⟨P,6,none⟩)) V0 ?_ (hQ:=(fun c a w h=>hp c a _ _ w h));refine tr 18 42 (.int .i64 t.made) V0 ?_ (hy:=fun W h=>by obtain⟨q0,q1,q2,q3,q4,q5,q6⟩:=(HA W h).sevenF;go_simp) (hQ:=(fun c a w h=>hp c a _ _ w h));refine tr 21 45 (.pointer (some ⟨P,5,none⟩)) V0 ?_ (hQ:=(fun c a w h=>hp c a _ _ w h));refine tr 22 46 (.slice t.own.a t.own.n t.own.k) V0 ?_ (hy:=fun W h=>by obtain⟨q0,q1,q2,q3,q4,q5,q6⟩:=(HA W h).sevenF;go_simp) (hQ:=(fun c a w h=>hp c a _ _ w h));refine Ac (i:=4) (by kernel_rfl) rfl ?_;intro K hK;refine Ao (by rfl) 20 _ _ (by rfl) ED _ (by rfl) (some 28) (by rfl) _ (PD1 _ V0) ?_;rintro v w1x ⟨rfl,h1⟩;have V1:=Af V0 h1;refine hK _ _ (fun _=>V1) ?_;clear hK K;simp only[ap,List.set];refine tr 5 29 (.string (S++(ByteArray.mk #[116,104,114,101,97,100,32])++D1)) V1 ?_ (hy:=fun W h=>by go_simp;omega) (hQ:=(fun c a w h=>hp c a _ _ w h));refine tr 6 30 (.string (S++(ByteArray.mk #[116,104,114,101,97,100,32])++D1++(ByteArray.mk #[32]))) V1 ?_ (hy:=fun W h=>by go_simp;omega) (hQ:=(fun c a w h=>hp c a _ _ w h));refine Ac (i:=9) (by kernel_rfl) rfl ?_;intro K hK;refine Ao (by rfl) 21 _ _ (by rfl) EX _ (by rfl) (some 33) (by rfl) _ (PX1 _ V1) ?_;rintro v w2x ⟨rfl,h2⟩;have V2:=Af V1 h2;refine hK _ _ (fun _=>V2) ?_;clear hK K;simp only[ap,List.set];refine tr 10 34 (.string (S++(ByteArray.mk #[116,104,114,101,97,100,32])++D1++(ByteArray.mk #[32])++X1)) V2 ?_ (hy:=fun W h=>by go_simp;omega) (hQ:=(fun c a w h=>hp c a _ _ w h));refine tr 11 35 (.string (S++(ByteArray.mk #[116,104,114,101,97,100,32])++D1++(ByteArray.mk #[32])++X1++(ByteArray.mk #[32]))) V2 ?_ (hy:=fun W h=>by go_simp;omega) (hQ:=(fun c a w h=>hp c a _ _ w h));refine Ac (i:=14) (by kernel_rfl) rfl ?_;intro K hK;refine Ao (by rfl) 21 _ _ (by rfl) EX _ (by rfl) (some 38) (by rfl) _ (PX2 _ V2) ?_;rintro v w3x ⟨rfl,h3⟩;have V3:=Af V2 h3;refine hK _ _ (fun _=>V3) ?_;clear hK K;simp only[ap,List.set];refine tr 15 39 (.string (S++(ByteArray.mk #[116,104,114,101,97,100,32])++D1++(ByteArray.mk #[32])++X1++(ByteArray.mk #[32])++X2)) V3 ?_ (hy:=fun W h=>by go_simp;omega) (hQ:=(fun c a w h=>hp c a _ _ w h));refine tr 16 40 (.string (S++(ByteArray.mk #[116,104,114,101,97,100,32])++D1++(ByteArray.mk #[32])++X1++(ByteArray.mk #[32])++X2++(ByteArray.mk #[32]))) V3 ?_ (hy:=fun W h=>by go_simp;omega) (hQ:=(fun c a w h=>hp c a _ _ w h));refine Ac (i:=19) (by kernel_rfl) rfl ?_;intro K hK;refine Ao (by rfl) 20 _ _ (by rfl) ED _ (by rfl) (some 43) (by rfl) _ (PD2 _ V3) ?_;rintro v w4x ⟨rfl,h4⟩;have V4:=Af V3 h4;refine hK _ _ (fun _=>V4) ?_;clear hK K;simp only[ap,List.set];refine tr 20 44 (.string (S++(ByteArray.mk #[116,104,114,101,97,100,32])++D1++(ByteArray.mk #[32])++X1++(ByteArray.mk #[32])++X2++(ByteArray.mk #[32])++D2)) V4 ?_ (hy:=fun W h=>by go_simp;omega) (hQ:=(fun c a w h=>hp c a _ _ w h));refine Ac (i:=23) (by kernel_rfl) rfl ?_;intro K hK;refine Ao (by rfl) 22 _ _ (by rfl) EL _ (by rfl) (some 47) (by rfl) _ (PB _ V4) ?_;rintro v w5x ⟨rfl,h5⟩;have V5:=Af V4 h5;refine hK _ _ (fun _=>V5) ?_;clear hK K;simp only[ap,List.set];refine tr 24 48 (.string (S++(ByteArray.mk #[116,104,114,101,97,100,32])++D1++(ByteArray.mk #[32])++X1++(ByteArray.mk #[32])++X2++(ByteArray.mk #[32])++D2++BL)) V5 ?_ (hy:=fun W h=>by go_simp;omega) (hQ:=(fun c a w h=>hp c a _ _ w h));refine tr 25 49 (.string (S++(ByteArray.mk #[116,104,114,101,97,100,32])++D1++(ByteArray.mk #[32])++X1++(ByteArray.mk #[32])++X2++(ByteArray.mk #[32])++D2++BL++(ByteArray.mk #[10]))) V5 ?_ (hy:=fun W h=>by go_simp;omega) (hQ:=(fun c a w h=>hp c a _ _ w h));refine tr 26 3 (.string (S++(ByteArray.mk #[116,104,114,101,97,100,32])++D1++(ByteArray.mk #[32])++X1++(ByteArray.mk #[32])++X2++(ByteArray.mk #[32])++D2++BL++(ByteArray.mk #[10]))) V5 ?_ (hQ:=(fun c a w h=>hp c a _ _ w h));refine Ai (by kernel_rfl) ?_ _;exact hQ _ V5
end Go.Proofs.YtefoofaocbjdoaaGreatDoor
