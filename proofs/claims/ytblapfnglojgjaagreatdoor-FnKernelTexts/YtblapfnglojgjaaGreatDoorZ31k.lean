import Derived.Test.YtblapfnglojgjaaGreatDoorZ30k
set_option maxRecDepth 100000
set_option maxHeartbeats 4000000
namespace Go.Proofs.YtblapfnglojgjaaGreatDoor
open Go Go.RowKit Go.Deep Go.Maps Go.Proofs.Tryz
variable {w w':World}{B c n g:Nat}{v:Value}{l:List Int}
def Hf(l:List (List UInt8)):List Value:=l.map fun x=>Value.string (bytesOf x)
def Bq(w:World)(B:Nat)(v:Value)(l:List (List UInt8)):Prop:=w.ownsRow B 9 1 v l.length (Hf l)
theorem Bq.below{l:List (List UInt8)}(h:Bq w B v l)(hb:Below w w w'):Bq w' B v l:=by
 refine⟨h.1,?_⟩;rcases h.2 with hn|⟨g,cap,cur,hv,hbg,hg,rest⟩
 ·exact .inl hn
 ·exact .inr ⟨g,cap,cur,hv,hbg,(hb.block g (Array.getElem?_eq_some_iff.1 hg).1).trans hg,rest⟩
theorem Bq.nil(w:World)(B:Nat):Bq w B (.slice none 0 0) []:=World.ownsRow_nil _ _ _ _
theorem Bq.alloc{l:List (List UInt8)}(h:Bq w B v l)(o:Obj):Bq (w.alloc o) B v l:=World.ownsRow.alloc h o
theorem Bq.made(w:World)(B:Nat)(hb:B<=w.heap.size):Bq (w.alloc (.cells #[] 9)) B (.slice (w) 0 0) []:=World.ownsRow_made w #[] 0 hb (Nat.zero_le _) rfl
theorem P8(x:ByteArray):Bh (w.alloc (.cells #[.string x] 9)) (some ⟨w,0,none⟩) 1 [.string x]:=fun _=>
 ⟨w,0,rfl,by simp,fun j u hu=>by
   cases j with
   |zero=>simp at hu;subst hu;simp
   |succ j=>simp at hu⟩
theorem La{ops:Array Oper}{rest:List Oper}{o:Oper}{a:Act}{Q:Exit->Act->World->Prop}(w:World)(hgd:o.guard=none)(s x:Operand)
 (ho:o.op= .call {callee:= .builtin .append,args:=#[s,x],argTypes:=#[49,49]})
 (B:Nat)(v:Value)(l:List (List UInt8))(hs:a.eval s=v)(hown:Bq w B v l)(ad:Option Addr)(c:Nat)(r:List UInt8)(hx:a.eval x= .slice ad 1 c)(hc:Bh w ad 1 [.string (bytesOf r)])
 (hm:l.length<=2000000)(hB:B<=w.heap.size)
 (h:∀(g:Nat) c' w',Bq w' B (.slice g (l.length+1) c') (l++[r])->w.grownBy w' v.ownBlock->wpList prog ops Q rest (a.put o.dst (.slice g (l.length+1) c')) w'):wpList prog ops Q (o::rest) a w:=by
 refine wpList_plain hgd fun _ hK=>BR underlying49 Tryz.info9 rfl (by omega) w s x ho B v l.length _ hs hown ad 1 c [.string (bytesOf r)] hx (by simp) hc (fun u hu=>by simp at hu;subst hu;rfl) (by omega) (by omega) hB fun a' c' w' h2 h3 _=>hK _ _ ?_;have e1:Hf l++[Value.string (bytesOf r)]=Hf (l++[r]):=by simp[Hf]
 have e2:(l++[r]).length=l.length+1:=by simp
 rw[e1]at h2;obtain⟨g,cap,hv,_,_⟩:=World.ownsRow.form h2 (by omega);simp only[Value.slice.injEq]at hv;obtain⟨rfl,_,_⟩:=hv;exact h g c' w' (by unfold Bq;rw[e2];exact h2) h3
theorem Bq.cells{l:List (List UInt8)}(h:Bq w B (.slice g n c) l):∀j u,l[j]? =some u->w.cell? ⟨g,j,none⟩=some (.string (bytesOf u)):=fun j u hu=>by
 have t:=World.ownsRow.cells h (g:=g) rfl j (.string (bytesOf u)) (by simp[Hf,hu]);rw[Go.WideShapes.add_plain]at t;simpa using t
theorem Bq.lt{l:List (List UInt8)}(h:Bq w B (.slice g n c) l):B<=g/\g<w.heap.size:=World.ownsRow.lt h g rfl
def Px(l:List Int):List Value:=l.map (Value.int .i64)
def Bo(w:World)(B:Nat)(v:Value)(l:List Int):Prop:=w.ownsRow B 2 1 v l.length (Px l)
theorem Bo.below(h:Bo w B v l)(hb:Below w w w'):Bo w' B v l:=by
 refine⟨h.1,?_⟩;rcases h.2 with hn|⟨g,cap,cur,hv,hbg,hg,rest⟩
 ·exact .inl hn
 ·exact .inr ⟨g,cap,cur,hv,hbg,(hb.block g (Array.getElem?_eq_some_iff.1 hg).1).trans hg,rest⟩
theorem Bo.nil(w:World)(B:Nat):Bo w B (.slice none 0 0) []:=World.ownsRow_nil _ _ _ _
theorem Bo.alloc(h:Bo w B v l)(o:Obj):Bo (w.alloc o) B v l:=World.ownsRow.alloc h o
theorem Bo.made(w:World)(B:Nat)(hb:B<=w.heap.size):Bo (w.alloc (.cells #[] 2)) B (.slice (w) 0 0) []:=World.ownsRow_made w #[] 0 hb (Nat.zero_le _) rfl
theorem Ss(x:Int):Bh (w.alloc (.cells #[.int .i64 x] 2)) (some ⟨w,0,none⟩) 1 [.int .i64 x]:=fun _=>
 ⟨w,0,rfl,by simp,fun j u hu=>by
   cases j with
   |zero=>simp at hu;subst hu;simp
   |succ j=>simp at hu⟩
theorem Ga{ops:Array Oper}{rest:List Oper}{o:Oper}{a:Act}{Q:Exit->Act->World->Prop}(w:World)(hgd:o.guard=none)(s x:Operand)
 (ho:o.op= .call {callee:= .builtin .append,args:=#[s,x],argTypes:=#[45,45]})
 (B:Nat)(v:Value)(l:List Int)(hs:a.eval s=v)(hown:Bo w B v l)(ad:Option Addr)(c:Nat)(r:Int)(hx:a.eval x= .slice ad 1 c)(hc:Bh w ad 1 [.int .i64 r])
 (hm:l.length<=2000000)(hB:B<=w.heap.size)
 (h:∀(g:Nat) c' w',Bo w' B (.slice g (l.length+1) c') (l++[r])->w.grownBy w' v.ownBlock->wpList prog ops Q rest (a.put o.dst (.slice g (l.length+1) c')) w'):wpList prog ops Q (o::rest) a w:=by
 refine wpList_plain hgd fun _ hK=>BR underlying45 Tryz.info2 rfl (by omega) w s x ho B v l.length _ hs hown ad 1 c [.int .i64 r] hx (by simp) hc (fun u hu=>by simp at hu;subst hu;rfl) (by omega) (by omega) hB fun a' c' w' h2 h3 _=>hK _ _ ?_;have e1:Px l++[Value.int .i64 r]=Px (l++[r]):=by simp[Px]
 have e2:(l++[r]).length=l.length+1:=by simp
 rw[e1]at h2;obtain⟨g,cap,hv,_,_⟩:=World.ownsRow.form h2 (by omega);simp only[Value.slice.injEq]at hv;obtain⟨rfl,_,_⟩:=hv;exact h g c' w' (by unfold Bo;rw[e2];exact h2) h3
theorem Bo.cells(h:Bo w B (.slice g n c) l):∀j u,l[j]? =some u->w.cell? ⟨g,j,none⟩=some (.int .i64 u):=fun j u hu=>by
 have t:=World.ownsRow.cells h (g:=g) rfl j (.int .i64 u) (by simp[Px,hu]);rw[Go.WideShapes.add_plain]at t;simpa using t
theorem Bo.lt(h:Bo w B (.slice g n c) l):B<=g/\g<w.heap.size:=World.ownsRow.lt h g rfl
theorem FY{ty sz:Nat}{cs:List Value}(h:w.ownsRow B ty sz v n cs):∀j,v.ownBlock=some j->B<=j:=fun j hj=>(World.ownsRow.lt h j hj).1
theorem SF(L:List UInt8)(w:World)(hL:L.length<=1048576):
 Calls prog 29 #[.string (bytesOf L)] w fun e w'=>∃g c,e= .returned (.slice (some ⟨g,0,none⟩) (Aj L).length c)/\Bq w' w (.slice g (Aj L).length c) (Aj L)/\Below w w w':=by
 have O0:=hid (Bq.made w w nr);have L0:=hid (CY w (.cells #[] 9));go_enter func29,ntmps29
 go_wp2;go_loopw [0,3,4] (fun s v m wr=>∃(l:List (List UInt8)) (R:List UInt8) (mo:Bool),s= .string (bytesOf R)/\m= .bool mo/\Hid (Aj L=l++(if mo=true then Aj R else[]))/\l.length+R.length+(if mo=true then 1 else 0)<=L.length+1/\R.length<=1048576/\(∃g c,v= .slice (some ⟨g,0,none⟩) l.length c)/\Bq wr w v l/\Below w w wr) (fun s _ m _=>KJ s+MW m)
 case atStart=>exact⟨[],L,true,rfl,rfl,hid (by simp),by simp,hL,⟨_,_,rfl⟩,O0,L0⟩
 case round=>
  obtain⟨l,R,mo,rfl,rfl,HW,hl,hR,⟨g,c,rfl⟩,hO,hB⟩:=hrel;have OO:=hid hO;clear hO O0 L0;cases mo with
  |false=>
   go_wp2;go_ret;have e:Aj L=l:=(by have:=HW.out;simpa using this);exact⟨g,c,by rw[e];rfl,by rw[e];exact OO.out,hB⟩
  |true=>
   have hl2:l.length+R.length<=L.length:=(by simp at hl;omega);have CT:=hid (Jj (bytesOf R) 32 wr (by rw[Au];unfold maxLen;omega));rw[AM]at CT;unfold cutV at CT;have k1:=Cs 32 R;have k2:=Dc 32 R;have HN:Hid (Aj L=(l++[(Ak 32 R).1])++(if (Ak 32 R).2.2=true then Aj (Ak 32 R).2.1 else[])):=hid (by
    have:=HW.out;rw[if_pos rfl,K6 R]at this;rw[this];simp)
   have km:(Ak 32 R).2.1.length+(if (Ak 32 R).2.2=true then 1 else 0)<=R.length:=by
    cases h:(Ak 32 R).2.2 with
    |true=>have:=I6 h;simpa using this
    |false=>rw[My 32 R h];simp
   generalize (Ak 32 R).1=one at *;generalize (Ak 32 R).2.1=rest at *;generalize (Ak 32 R).2.2=mo' at *;clear HW hl;go_wp2_with fail
   refine CT.out.mono ?_;rintro e w1 ⟨rfl,hb1⟩;have n1:No (.cells #[.string (bytesOf one)] 9):=⟨⟩;have O1:=hid ((OO.out.below hb1).alloc n1);have C1:=hid (P8 (w:=w1) (bytesOf one));have B1:=hid ((Ac hB hb1).alloc (Ac hB hb1).size n1);have lm:l.length<=2000000:=(by omega);have sz:=B1.out.size;clear OO CT hb1 hB;go_wp2_with(at_builtin;refine La _ rfl _ _ rfl w _ l rfl O1 _ 1 one rfl C1 lm sz ?_;intro g4 c4 w4 O4 G4;have OX:=hid O4;have GX:=hid G4;clear O4 G4)
   refine⟨⟨l++[one],rest,mo',rfl,rfl,HN,by simp;omega,by omega,⟨g4,c4,by rw[List.length_append];rfl⟩,OX,B1.out.trans (below_grown GX sz (FY O1))⟩,?_⟩;show KJ (Value.string (bytesOf rest))+MW (Value.bool mo')<KJ (Value.string (bytesOf R))+1;rw[show KJ (Value.string (bytesOf rest))=rest.length from Au rest,show KJ (Value.string (bytesOf R))=R.length from Au R];cases mo' with
   |true=>show _+1<_;simp at km;omega
   |false=>show _+0<_;omega
theorem aL(w:List UInt8):Bb w=if okD w=true then CF w else-1:=rfl
theorem Ng(a:Option Addr)(cap:Nat)(ws:List (List UInt8))(w:World)(hn:ws.length<=1048576)(hz:∀x∈ws,x.length<=1048576)(hS:0<ws.length->∃b off,a=some ⟨b,off,none⟩/\b<w.heap.size/\∀i u,ws[i]? =some u->w.cell? ⟨b,off+i,none⟩=some (.string (bytesOf u))):
 Calls prog 30 #[.slice a ws.length cap] w fun e w'=>∃g c,e= .returned (.slice (some ⟨g,0,none⟩) ws.length c)/\Bo w' w (.slice g ws.length c) (ws.map Bb)/\Below w w w':=by
 have O0:=hid (Bo.made w w nr);have L0:=hid (CY w (.cells #[] 2));have HS:=hid hS;have HZ:=hid hz;clear hS hz;obtain⟨n,hw⟩:∃n,ws.length=n:=⟨_,rfl⟩;rw[hw]at hn;have HW:=hid hw;simp only[hw];clear hw;go_enter func30,ntmps30
 go_wp2;go_loopw [3,4] (fun v i wr=>∃k:Nat,k<=n/\i= .int .i64 k/\(∃g c,v= .slice (some ⟨g,0,none⟩) k c)/\Bo wr w v ((ws.take k).map Bb)/\Below w w wr) (fun _ i _=>n-(intOf i).toNat)
 case atStart=>exact⟨0,Nat.zero_le _,rfl,⟨_,_,rfl⟩,by simpa using O0.out,L0⟩
 case round=>
  obtain⟨k,hk,rfl,⟨g,c,rfl⟩,hO,hB⟩:=hrel;have OO:=hid hO;clear hO O0 L0;by_cases hlt:k<n
  ·have i1:(k:Int)<(n:Int):=(by omega);have i0:(0:Int)<=(k:Int):=(by omega);have hk':k<ws.length:=(by rw[HW.out];exact hlt);obtain⟨u,hu⟩:∃u,ws[k]? =some u:=⟨_,List.getElem?_eq_getElem hk'⟩;obtain⟨b,off,rfl,hb,hc⟩:=HS.out (by omega);have c0:wr.cell? ⟨b,off+k,none⟩=some (.string (bytesOf u)):=(hB.cell (p:=⟨b,off+k,none⟩) hb).trans (hc k u hu);have ul:u.length<=1048576:=HZ.out u (List.mem_of_getElem? hu);have ET:Hid ((ws.take k).map Bb++[Bb u]=(ws.take (k+1)).map Bb):=hid (by
    rw[List.take_add_one,hu];simp)
   have EL:Hid (((ws.take k).map Bb).length=k):=hid (by simp;omega);have EL2:Hid (((ws.take (k+1)).map Bb).length=k+1):=hid (by simp;omega);have EM:=hid (aL u);have CT:=hid (Kh (bytesOf u) wr (by rw[Au];unfold maxLen;omega));rw[AM]at CT;unfold Di at CT;have lm:((ws.take k).map Bb).length<=2000000:=(by rw[EL.out];omega);generalize (ws.take k).map Bb=l at *;clear hc hu hb;go_wp2_with fail
   refine CT.out.mono ?_;rintro e w1 ⟨rfl,rfl⟩;clear CT c0;cases hd:okD u with
   |true=>
    have ex:Hid (Bb u=CF u):=hid (by rw[EM.out,hd];rfl);rw[ex.out]at ET;generalize CF u=x at *;have O1:=hid (OO.out.alloc (.cells #[.int .i64 x] 2));have C1:=hid (Ss (w:=w1) x);have B1:=hid (hB.alloc hB.size (.cells #[.int .i64 x] 2));have sz:=B1.out.size;clear OO hB EM ex;go_wp2_with(at_builtin;refine Ga _ rfl _ _ rfl w _ l rfl O1 _ 1 x rfl C1 lm sz ?_;intro g4 c4 w4 O4 G4;have OX:=hid O4;have GX:=hid G4;clear O4 G4)
    have OF:=OX.out;rw[ET.out,EL.out]at OF;exact⟨⟨k+1,by omega,by go_num,⟨g4,c4,by rw[EL.out]⟩,by rw[EL.out];exact OF,B1.out.trans (below_grown GX sz (FY O1))⟩,by simp[intOf];omega⟩
   |false=>
    have ex:Hid (Bb u= -1):=hid (by rw[EM.out,hd];rfl);rw[ex.out]at ET;have O1:=hid (OO.out.alloc (.cells #[.int .i64 (-1)] 2));have C1:=hid (Ss (w:=w1) (-1));have B1:=hid (hB.alloc hB.size (.cells #[.int .i64 (-1)] 2));have sz:=B1.out.size;clear OO hB EM ex;go_wp2_with(at_builtin;refine Ga _ rfl _ _ rfl w _ l rfl O1 _ 1 (-1) rfl C1 lm sz ?_;intro g4 c4 w4 O4 G4;have OX:=hid O4;have GX:=hid G4;clear O4 G4)
    have OF:=OX.out;rw[ET.out,EL.out]at OF;exact⟨⟨k+1,by omega,by go_num,⟨g4,c4,by rw[EL.out]⟩,by rw[EL.out];exact OF,B1.out.trans (below_grown GX sz (FY O1))⟩,by simp[intOf];omega⟩
  ·have ek:n=k:=(by omega);have i1:¬(k:Int)<(n:Int):=(by omega);have e:ws.take k=ws:=List.take_of_length_le (by rw[HW.out];omega);rw[e]at OO;subst ek;go_wp2;go_ret;exact⟨g,c,rfl,OO,hB⟩
variable {c B P i:Nat}{w:World}{v:Value}{a:Option Addr}
theorem Mt{α:Type}{f:α->List Value}(hl:∀x,(f x).length=c):∀{l:List α}{t i:Nat}{x:α}{u:Value} (ht:t<l.length),i<c->f x=(f l[t]).set i u->((l.map f).flatten).set (t*c+i) u=((l.set t x).map f).flatten
 |[],t,_,_,_,ht,_,_=>absurd ht (Nat.not_lt_zero t)
 |y::r,0,i,x,u,_,hi,h=>by
  show(f y++(r.map f).flatten).set (0*c+i) u=f x++(r.map f).flatten;rw[Nat.zero_mul,Nat.zero_add,List.set_append_left _ _ (by rw[hl];exact hi)];have h':f x=(f y).set i u:=h;rw[h']
 |y::r,t+1,i,x,u,ht,hi,h=>by
  show(f y++(r.map f).flatten).set ((t+1)*c+i) u=f y++((r.set t x).map f).flatten;have e:(t+1)*c+i=(f y).length+(t*c+i):=by rw[hl,Nat.succ_mul];omega
  rw[e,List.set_append_right _ _ (by omega),Nat.add_sub_cancel_left];rw[Mt hl (l:=r) (t:=t) (x:=x) (by simpa using ht) hi h]
theorem Ae.cs_lenK(x:Ae):x.cs.length=10:=rfl
theorem Cf.setK{vt vo:Value}{lt:List Af}{lo:List Ae}{cs:Array Value}(h:Cf w B vt vo lt lo)(hb:Ai w P (.cells cs 27))(u:Value):Cf (w.setCell ⟨P,i,none⟩ u) B vt vo lt lo:=by
 have k:=Aw (i:=i) hb (by decide) u;exact⟨h.t.set hb (by decide) u,h.o.set hb (by decide) u,fun x hx=>(h.tn x hx).keeps k,fun x hx=>(h.on x hx).keeps k,h.tc,h.oc⟩
theorem Bq.keeps{w':World}{l:List (List UInt8)}(h:Bq w B v l)(k:Eu w w'):Bq w' B v l:=by
 refine⟨h.1,?_⟩;rcases h.2 with hn|⟨g,cap,cur,hv,hbg,hgg,rest⟩
 ·exact .inl hn
 ·exact .inr ⟨g,cap,cur,hv,hbg,(k.block g cur _ hgg (.inr (.inr rfl))).trans hgg,rest⟩
theorem Bq.other{l:List (List UInt8)}(h:Bq w B v l)(hne:¬v.ownBlock=some P)(x:Value):Bq (w.setCell ⟨P,i,none⟩ x) B v l:=by
 refine⟨h.1,?_⟩;rcases h.2 with hn|⟨g,cap,cur,hv,hbg,hgg,rest⟩
 ·exact .inl hn
 ·exact .inr ⟨g,cap,cur,hv,hbg,(Below.heap_setCell _ _ _ _ (fun e=>hne (by rw[hv];show some g=some P;rw[e]))).trans hgg,rest⟩
theorem Bq.str{l:List (List UInt8)}(h:Bq w B (.slice a l.length c) l)(hl:l.length<=1048576)(hz:∀x∈l,x.length<=1048576):AX.new B w ⟨a,l.length,c,fun i=>bytesOf (l.getD i [])⟩:=by
 have row:0<l.length->∃b m F,a=some ⟨b,0,none⟩/\B<=b/\(l.length<=m/\m=c)/\w.rowIs b 9 m F:=fun h0=>by
  rcases h.2 with⟨hv,hn⟩|⟨g,cap,cur,hv,hbg,hgg,h1,h2,h3⟩
  ·simp only[Value.slice.injEq]at hv;omega
  ·simp only[Value.slice.injEq]at hv;obtain⟨rfl,_,hc⟩:=hv;refine⟨g,cur.size,fun i=>cur.getD i undef,rfl,hbg,?_,⟨cur,hgg,rfl,fun i hi=>by simp[hi]⟩⟩;have:=h3.1;omega
 refine⟨⟨by unfold maxLen;show l.length<=_;omega,fun h0=>?_,fun i hi=>?_⟩,row⟩
 ·obtain⟨b,m,F,rfl,_,_,hr⟩:=row h0;refine⟨b,0,rfl,hr.lt,fun i hi=>?_⟩;have hi':i<l.length:=hi;have:=h.cells i l[i] (List.getElem?_eq_getElem hi');simpa[hi']using this
 ·have hi':i<l.length:=hi;show(bytesOf (l.getD i [])).size<=maxLen;rw[Au];have:=hz l[i] (List.getElem_mem hi');unfold maxLen;simp[hi'];omega
theorem Bo.int{l:List Int}(h:Bo w B (.slice a l.length c) l)(hl:l.length<=1048576):AU.new B w ⟨a,l.length,c,fun i=>l.getD i 0⟩:=by
 have row:0<l.length->∃b m F,a=some ⟨b,0,none⟩/\B<=b/\l.length<=m/\w.rowIs b 2 m F:=fun h0=>by
  rcases h.2 with⟨hv,hn⟩|⟨g,cap,cur,hv,hbg,hgg,h1,h2,h3⟩
  ·simp only[Value.slice.injEq]at hv;omega
  ·simp only[Value.slice.injEq]at hv;obtain⟨rfl,_,_⟩:=hv;refine⟨g,cur.size,fun i=>cur.getD i undef,rfl,hbg,?_,⟨cur,hgg,rfl,fun i hi=>by simp[hi]⟩⟩;omega
 refine⟨⟨by unfold maxLen;show l.length<=_;omega,fun h0=>?_⟩,row⟩;obtain⟨b,m,F,rfl,_,_,hr⟩:=row h0;refine⟨b,0,rfl,hr.lt,fun i hi=>?_⟩;have hi':i<l.length:=hi;have:=h.cells i l[i] (List.getElem?_eq_getElem hi');simpa[hi']using this
variable {w wr wr' w':World}{B i co:Nat}{lt:List Af}{lo:List Ae}{α:Type}{os:List OD}{ts:List TD}{vt vo v:Value}{x:Ae}
theorem FN{ty sz n c:Nat}{a:Option Addr}{xs:List Value}(h:w.ownsRow B ty sz (.slice a n c) n xs):n<=c/\c<=maxLen:=by
 rcases h.2 with⟨hv,hn⟩|⟨g,cap,cur,hv,_,_,h1,h2,_⟩
 ·simp only[Value.slice.injEq]at hv;obtain⟨_,rfl,rfl⟩:=hv;exact⟨Nat.le_refl _,Nat.zero_le _⟩
 ·simp only[Value.slice.injEq]at hv;obtain⟨_,_,rfl⟩:=hv;exact⟨h1,h2⟩
theorem Io{u:Af}:(∀i,i<lt.length->Bm (lt++[u]) i=Bm lt i)/\Bm (lt++[u]) lt.length=u:=⟨fun i hi=>by simp[Bm,List.getElem?_append,hi],by simp[Bm]⟩
theorem FE{u:Ae}:(∀i,i<lo.length->Aa (lo++[u]) i=Aa lo i)/\Aa (lo++[u]) lo.length=u:=⟨fun i hi=>by simp[Aa,List.getElem?_append,hi],by simp[Aa]⟩
theorem FT(h:i<lo.length):Aa lo i=lo[i]:=by simp[Aa,h]
theorem Fp{l:List α}{x d:α}:(∀i,i<l.length->(l++[x]).getD i d=l.getD i d)/\(l++[x]).getD l.length d=x:=⟨fun i hi=>by simp[List.getElem?_append,hi],by simp⟩
def Ry(wr:World)(B:Nat)(os:List OD)(lo:List Ae):Prop:=
 ∀i,i+1=lo.length->∃M,B<=M/\M<=wr.heap.size/\(∀j,j<i->∀b,(Aa lo j).jA.a=some ⟨b,0,none⟩->0<(Aa lo j).jA.n->b<M)/\Bq wr M (Aa lo i).jA.val (os.getD i zO).jA
structure Gm(w wr:World)(ts:List TD)(os:List OD)(vt vo:Value)(lt:List Af)(lo:List Ae):Prop where
 st:Cf wr w vt vo lt lo
 lT:lt.length=ts.length
 sT:∀i,i<ts.length->(ts.getD i zT).v.same (Bm lt i)
 lO:lo.length=os.length
 sO:∀i,i<os.length->(os.getD i zO).v.same (Aa lo i)
 dz:∀d∈os,d.data.length<=1048576
 last:Ry wr w os lo
 r:Ai wr w (.cells #[.slice none 0 0,.slice none 0 0] 27)
 k:Ai wr (w.heap.size+1) (.cells #[vt,vo] 27)
 be:Below w w wr
theorem Ry.keeps(h:Ry wr B os lo)(k:Eu wr wr'):Ry wr' B os lo:=fun i hi=>by
 obtain⟨M,h1,h0,h2,h3⟩:=h i hi;exact⟨M,h1,Nat.le_trans h0 k.size,h2,h3.keeps k⟩
theorem Gm.below(h:Gm w wr ts os vt vo lt lo)(hb:Below wr wr wr'):Gm w wr' ts os vt vo lt lo:=
 ⟨h.st.below hb,h.lT,h.sT,h.lO,h.sO,h.dz,h.last.keeps (CN.of_below hb).l,h.r.below hb,h.k.below hb,Ac h.be hb⟩
theorem Gm.ker{ta oa:Option Addr}{ca:Nat}(h:Gm w wr ts os (.slice ta lt.length ca) (.slice oa lo.length co) lt lo)(h1:lt.length<=1048576)(h2:lo.length<=1048576):(Dm ta ca oa co lt lo).at wr/\(Dd ts os).same (Dm ta ca oa co lt lo):=by
 refine⟨h.st.at h1 h2 fun x hx=>?_,h.lT,fun j hj=>h.sT j hj,h.lO,fun j hj=>h.sO j hj⟩;obtain⟨i,hi,rfl⟩:=List.getElem_of_mem hx;have s:=h.sO i (by rw[<-h.lO];exact hi);rw[FT hi]at s;obtain⟨_,_,_,_,_,e,_⟩:=s;rw[e];show(bytesOf (os.getD i zO).data).size<=maxLen;rw[Au];have:os.getD i zO∈os:=by
  have hi':i<os.length:=by rw[<-h.lO];exact hi
  simp[hi']
 have:=h.dz _ this;unfold maxLen;omega
theorem Gm.setT{w wr:World}{ts:List TD}{os:List OD}{vt vo v:Value}{lt:List Af}{lo:List Ae}(h:Cf wr w v vo lt lo)(lT:lt.length=ts.length)(sT:∀i,i<ts.length->(ts.getD i zT).v.same (Bm lt i))(lO:lo.length=os.length)(sO:∀i,i<os.length->(os.getD i zO).v.same (Aa lo i))(dz:∀d∈os,d.data.length<=1048576)(last:Ry wr w os lo)
 (r:Ai wr w (.cells #[.slice none 0 0,.slice none 0 0] 27))(k:Ai wr (w.heap.size+1) (.cells #[vt,vo] 27))(be:Below w w wr):Gm w (wr.setCell ⟨w.heap.size+1,0,none⟩ v) ts os v vo lt lo:=
 ⟨h.setK k v,lT,sT,lO,sO,dz,last.keeps (Aw k (by decide) v),r.other (by omega) _,k.jB (i:=0) v,be.setCell (by show _<=w.heap.size+1;omega) _⟩
theorem Gm.setO{w wr:World}{ts:List TD}{os:List OD}{vt vo v:Value}{lt:List Af}{lo:List Ae}(h:Cf wr w vt v lt lo)(lT:lt.length=ts.length)(sT:∀i,i<ts.length->(ts.getD i zT).v.same (Bm lt i))(lO:lo.length=os.length)(sO:∀i,i<os.length->(os.getD i zO).v.same (Aa lo i))(dz:∀d∈os,d.data.length<=1048576)(last:Ry wr w os lo)
 (r:Ai wr w (.cells #[.slice none 0 0,.slice none 0 0] 27))(k:Ai wr (w.heap.size+1) (.cells #[vt,vo] 27))(be:Below w w wr):Gm w (wr.setCell ⟨w.heap.size+1,1,none⟩ v) ts os vt v lt lo:=
 ⟨h.setK k v,lT,sT,lO,sO,dz,last.keeps (Aw k (by decide) v),r.other (by omega) _,k.jB (i:=1) v,be.setCell (by show _<=w.heap.size+1;omega) _⟩
theorem Gm.addT{d:TD}{x:Af}(h:Gm w wr ts os vt vo lt lo)(ho:CV w' w v (lt++[x]))(hg:wr.grownBy w' vt.ownBlock)(hx:x.new w wr)(hs:d.v.same x)(hc:x.own.n<=x.own.k/\x.own.k<=maxLen):
 Ai w' (w.heap.size+1) (.cells #[vt,vo] 27)/\Gm w (w'.setCell ⟨w.heap.size+1,0,none⟩ v) (ts++[d]) os v vo (lt++[x]) lo:=by
 obtain⟨k1,kk⟩:=h.st.addT ho hg hx hc;have kb:=kk.blk h.k (by decide) (by decide);refine⟨kb,Gm.setT k1 (by simp[h.lT]) (fun i hi=>?_) h.lO h.sO h.dz (h.last.keeps kk.l) (kk.blk h.r (by decide) (by decide)) kb (h.be.trans (below_grown hg h.be.size (FY h.st.t)))⟩;by_cases e:i<ts.length
 ·rw[Fp.1 i e,Io.1 i (by rw[h.lT];exact e)];exact h.sT i e
 ·have ei:i=ts.length:=by simp at hi;omega
  rw[ei,Fp.2,<-h.lT,Io.2];exact hs
theorem Gm.addO{d:OD}(h:Gm w wr ts os vt vo lt lo)(ho:Ba w' w v (lo++[x]))(hg:wr.grownBy w' vo.ownBlock)(hx:x.new w wr)(hs:d.v.same x)(hc:x.jA.n<=x.jA.k/\x.jA.k<=maxLen)(hd:d.data=[])(hi0:d.jA=[])(hv:x.jA.val= .slice none 0 0):
 Ai w' (w.heap.size+1) (.cells #[vt,vo] 27)/\Gm w (w'.setCell ⟨w.heap.size+1,1,none⟩ v) ts (os++[d]) vt v lt (lo++[x]):=by
 obtain⟨k1,kk⟩:=h.st.addO ho hg hx hc;have kb:=kk.blk h.k (by decide) (by decide);refine⟨kb,Gm.setO k1 h.lT h.sT (by simp[h.lO]) (fun i hi=>?_) (fun y hy=>?_) (fun i hi=>?_) (kk.blk h.r (by decide) (by decide)) kb (h.be.trans (below_grown hg h.be.size (FY h.st.o)))⟩
 ·by_cases e:i<os.length
  ·rw[Fp.1 i e,FE.1 i (by rw[h.lO];exact e)];exact h.sO i e
  ·have ei:i=os.length:=(by simp at hi;omega);rw[ei,Fp.2,<-h.lO,FE.2];exact hs
 ·rcases List.mem_append.1 hy with hy|hy
  ·exact h.dz y hy
  ·rw[List.mem_singleton.1 hy,hd];exact Nat.zero_le _
 ·have ei:i=lo.length:=by simp at hi;omega
  refine⟨w',Nat.le_trans h.be.size hg.size,Nat.le_refl _,fun j hj b hb hn=>?_,?_⟩
  ·rw[FE.1 j (by omega)]at hb hn;have hj':j<lo.length:=(by omega);rw[FT hj']at hb hn;obtain⟨b',m,F,e,_,_,hr⟩:=(k1.on lo[j] (List.mem_append_left _ (List.getElem_mem hj'))).2.1.2 hn;rw[hb]at e;cases e;exact hr.lt
  ·rw[ei,FE.2,hv];have:(os++[d]).getD lo.length zO=d:=(by rw[h.lO];exact Fp.2);rw[this,hi0];exact Bq.nil _ _
theorem GM(hi:i+1=lo.length):(∀j,j<i->Aa (lo.set i x) j=Aa lo j)/\Aa (lo.set i x) i=x:=
 ⟨fun j hj=>by simp[Aa,show ¬i=j from by omega],by simp[Aa,show i<lo.length from by omega]⟩
theorem IZ{l:List α}{x d:α}(hi:i+1=l.length):(∀j,j<i->(l.set i x).getD j d=l.getD j d)/\(l.set i x).getD i d=x:=
 ⟨fun j hj=>by simp[show ¬i=j from by omega],by simp[show i<l.length from by omega]⟩
theorem Dn(hi:i+1=os.length)(f:OD->OD):Ia os f=os.set i (f (os.getD i zO)):=by
 have hne:os≠[]:=fun e=>by rw[e]at hi;simp at hi
 obtain⟨pre,o,rfl⟩:∃pre o,os=pre++[o]:=⟨os.dropLast,os.getLast hne,(List.dropLast_concat_getLast hne).symm⟩;have e:i=pre.length:=by simp at hi;exact hi
 subst e;rw[lastO_snoc',Fp.2];simp
where
 lastO_snoc' {os:List OD}{o:OD}{f:OD->OD}:Ia (os++[o]) f=os++[f o]:=by simp[Ia]
theorem Gm.data{g:Nat}{l:List UInt8}(h:Gm w wr ts os vt (.slice g lo.length co) lt lo)(hi:i+1=lo.length)(hl:l.length<=1048576):
 ∃lo',lo'.length=lo.length/\Gm w (wr.setCell ⟨g,i*10+5,none⟩ (.string (bytesOf l))) ts (Ia os fun o=>{o with data:=l}) vt (.slice g lo'.length co) lt lo':=by
 have hi':i<lo.length:=by omega
 have hio:i+1=os.length:=by rw[<-h.lO];exact hi
 obtain⟨cur,hcur⟩:∃cur,Ai wr g (.cells cur 51):=by
  rcases h.st.o.2 with⟨hv,_⟩|⟨g',cap,cur,hv,_,hgg,_⟩
  ·cases hv
  ·cases hv;exact⟨cur,hgg⟩
 have hBg:w.heap.size<=g:=(World.ownsRow.lt h.st.o g rfl).1;have kl:=Aw (i:=i*10+5) hcur (by decide) (.string (bytesOf l));have ng:∀{P:Nat}{cs:Array Value},Ai wr P (.cells cs 27)->g≠P:=fun{P cs} hb e=>by
  subst e;unfold Ai at hb hcur;rw[hcur]at hb;simp at hb
 let x:Ae:={lo[i]with data:=bytesOf l};have ho:=(World.ownsRow.stored h.st.o (i*10+5) (.string (bytesOf l))).1;have el:(lo.set i x).length=lo.length:=by simp
 have lo_on:∀y∈lo.set i x,y=x∨y∈lo:=fun y hy=>by
  rcases List.mem_or_eq_of_mem_set hy with h|h
  ·exact .inr h
  ·exact .inl h
 have hx0:=h.st.on lo[i] (List.getElem_mem hi');have hc0:=h.st.oc lo[i] (List.getElem_mem hi');refine⟨lo.set i x,el,⟨⟨h.st.t.set hcur (by decide) _,?_,fun y hy=>(h.st.tn y hy).keeps kl,fun y hy=>?_,h.st.tc,fun y hy=>?_⟩,h.lT,h.sT,?_,?_,?_,?_,h.r.other (ng h.r) _,by rw[el];exact h.k.other (ng h.k) _,h.be.setCell hBg _⟩⟩
 ·unfold Ba;rw[el];have e:=Mt (f:=Ae.cs) Ae.cs_lenK (l:=lo) (t:=i) (i:=5) (x:=x) (u:= .string (bytesOf l)) hi' (by omega) rfl;unfold AY;rw[<-e];exact ho
 ·rcases lo_on y hy with rfl|hy
  ·exact Ae.new.keeps (t:=x) (show Ae.new _ _ x from hx0) kl
  ·exact(h.st.on y hy).keeps kl
 ·rcases lo_on y hy with rfl|hy
  ·exact hc0
  ·exact h.st.oc y hy
 ·rw[el,Dn hio,List.length_set];exact h.lO
 ·intro j hj;rw[Dn hio,List.length_set]at hj;rw[Dn hio];by_cases e:j<i
  ·rw[(IZ hio).1 j e,(GM hi).1 j e];exact h.sO j hj
  ·have ej:j=i:=(by omega);subst ej;rw[(IZ hio).2,(GM hi).2];have s:=h.sO j hj;rw[FT hi']at s;obtain⟨s1,s2,s3,s4,s5,_,s7⟩:=s;exact⟨s1,s2,s3,s4,s5,rfl,s7⟩
 ·intro y hy;rw[Dn hio]at hy;rcases List.mem_or_eq_of_mem_set hy with hy|rfl
  ·exact h.dz y hy
  ·exact hl
 ·intro j hj;rw[el]at hj;have ej:j=i:=by omega
  subst ej;obtain⟨M,m1,m0,m2,m3⟩:=h.last j hi;refine⟨M,m1,Nat.le_trans m0 kl.size,fun k hk b hb hn=>?_,?_⟩
  ·rw[(GM hi).1 k hk]at hb hn;exact m2 k hk b hb hn
  ·rw[(GM hi).2,Dn hio,(IZ hio).2];rw[FT hi']at m3;exact m3.keeps kl
theorem Gm.item{w wr w':World}{g co q c:Nat}{ts:List TD}{os:List OD}{vt:Value}{lt:List Af}{lo:List Ae}{l:List UInt8}(h:Gm w wr ts os vt (.slice g lo.length co) lt lo){i M:Nat}(hi:i+1=lo.length)(hl:l.length<=1048576)(hz:∀y∈(os.getD i zO).jA,y.length<=1048576)(hn:(os.getD i zO).jA.length<1048576)
 (hM:w.heap.size<=M)(hM0:M<=wr.heap.size)(hB:∀j,j<i->∀b,(Aa lo j).jA.a=some ⟨b,0,none⟩->0<(Aa lo j).jA.n->b<M)(hO:Bq wr M (Aa lo i).jA.val (os.getD i zO).jA)
 (hO':Bq w' M (.slice q ((os.getD i zO).jA.length+1) c) ((os.getD i zO).jA++[l]))(hg:wr.grownBy w' (Aa lo i).jA.val.ownBlock):
 ∃lo',lo'.length=lo.length/\Gm w (w'.setCell ⟨g,i*10+6,none⟩ (.slice q ((os.getD i zO).jA.length+1) c)) ts (Ia os fun o=>{o with jA:=o.jA++[l]}) vt (.slice g lo'.length co) lt lo':=by
 have hi':i<lo.length:=by omega
 have hio:i+1=os.length:=by rw[<-h.lO];exact hi
 have keep:∀{k:Nat}{cs:Array Value}{t:TypeId},wr.heap[k]? =some (Obj.cells cs t (0,0))->t≠9->w'.heap[k]? =wr.heap[k]?:=fun{k cs t} hk ht=>hg.block k (Array.getElem?_eq_some_iff.1 hk).1 (fun e=>by
  rcases hO.2 with⟨hv,_⟩|⟨g',cap',cur',hv',_,hgg',_⟩
  ·rw[hv]at e;cases e
  ·rw[hv']at e;cases e;rw[hgg']at hk;simp only[Option.some.injEq,Obj.cells.injEq,and_true]at hk;exact ht hk.2.symm)
 have kT:CV w' w vt lt:=by
  refine⟨h.st.t.1,?_⟩;rcases h.st.t.2 with hn|⟨g0,cap,cur,hv,hbg,hgg,rest⟩
  ·exact .inl hn
  ·exact .inr ⟨g0,cap,cur,hv,hbg,(keep hgg (by decide)).trans hgg,rest⟩
 have kO:Ba w' w (.slice g lo.length co) lo:=by
  refine⟨h.st.o.1,?_⟩;rcases h.st.o.2 with hn|⟨g0,cap,cur,hv,hbg,hgg,rest⟩
  ·exact .inl hn
  ·exact .inr ⟨g0,cap,cur,hv,hbg,(keep hgg (by decide)).trans hgg,rest⟩
 have sz:=hg.size;have catK:∀{c:AH},c.new w wr->c.new w w':=fun{c} hc=>hc.over sz (fun b m F hr=>by obtain⟨cs,hh⟩:=IP hr;exact keep hh (by decide));have intK:∀{c:AU},c.new w wr->c.new w w':=fun{c} hc=>hc.over sz (fun b m F hr=>by obtain⟨cs,hh⟩:=IP hr;exact keep hh (by decide));obtain⟨cur,hcur⟩:∃cur,Ai w' g (.cells cur 51):=by
  rcases kO.2 with⟨hv,_⟩|⟨g',cap,cur,hv,_,hgg,_⟩
  ·cases hv
  ·cases hv;exact⟨cur,hgg⟩
 have hBg:w.heap.size<=g:=(World.ownsRow.lt h.st.o g rfl).1;have kl:=Aw (i:=i*10+6) hcur (by decide) (.slice q ((os.getD i zO).jA.length+1) c);have kr:Ai w' w (.cells #[.slice none 0 0,.slice none 0 0] 27):=(keep h.r (by decide)).trans h.r;have kk:Ai w' (w.heap.size+1) (.cells #[vt,.slice g lo.length co] 27):=(keep h.k (by decide)).trans h.k;have ng:∀{P:Nat}{cs:Array Value},Ai w' P (.cells cs 27)->g≠P:=fun{P cs} hb e=>by
  subst e;unfold Ai at hb hcur;rw[hcur]at hb;simp at hb
 have elen:((os.getD i zO).jA++[l]).length=(os.getD i zO).jA.length+1:=by simp
 let it:AX:=⟨some ⟨q,0,none⟩,(os.getD i zO).jA.length+1,c,fun j=>bytesOf (((os.getD i zO).jA++[l]).getD j [])⟩;have hit:it.new M w':=by
  have:=Bq.str (w:=w') (B:=M) (a:=some ⟨q,0,none⟩) (c:=c) (l:=(os.getD i zO).jA++[l]) (by rw[elen];exact hO') (by rw[elen];omega) (fun y hy=>by
   rcases List.mem_append.1 hy with hy|hy
   ·exact hz y hy
   ·rw[List.mem_singleton.1 hy];exact hl)
  rw[elen]at this;exact this
 have hroom:it.n<=it.k/\it.k<=maxLen:=FN (by
  have:=hO';unfold Bq at this;rw[elen]at this;exact this)
 let x:Ae:={lo[i]with jA:=it};have ho:=(World.ownsRow.stored kO (i*10+6) (.slice q ((os.getD i zO).jA.length+1) c)).1;have el:(lo.set i x).length=lo.length:=by simp
 have hx0:=h.st.on lo[i] (List.getElem_mem hi');have lo_on:∀y∈lo.set i x,y=x∨∃j,j<i/\y=Aa lo j:=fun y hy=>by
  obtain⟨j,hj,rfl⟩:=List.getElem_of_mem hy;rw[el]at hj;by_cases e:j=i
  ·subst e;exact .inl (by simp)
  ·refine .inr ⟨j,by omega,?_⟩;rw[FT hj];simp[show ¬i=j from by omega]
 have others:∀j,j<i->(Aa lo j).new w w':=fun j hj=>by
  have hj':j<lo.length:=by omega
  have hb:=hB j hj;rw[FT hj']at hb ⊢;have hn:=h.st.on lo[j] (List.getElem_mem hj');refine⟨catK hn.1,?_,intK hn.2.2.1,catK hn.2.2.2⟩;refine hn.2.1.of sz (fun b e h0=>hg.block b ?_ (fun e'=>?_))
  ·obtain⟨b',m,F,e2,_,_,hr⟩:=hn.2.1.2 h0;rw[e]at e2;cases e2;exact hr.lt
  ·have:=(World.ownsRow.lt hO b e'.symm).1;have:=hb b e h0;omega
 refine⟨lo.set i x,el,⟨⟨kT.set hcur (by decide) _,?_,fun y hy=>?_,fun y hy=>?_,h.st.tc,fun y hy=>?_⟩,h.lT,h.sT,?_,?_,?_,?_,kr.other (ng kr) _,?_,(h.be.trans (below_grown hg h.be.size (fun j e=>Nat.le_trans hM (FY hO j e)))).setCell hBg _⟩⟩
 ·unfold Ba;rw[el];have e:=Mt (f:=Ae.cs) Ae.cs_lenK (l:=lo) (t:=i) (i:=6) (x:=x) (u:= .slice q ((os.getD i zO).jA.length+1) c) hi' (by omega) rfl;unfold AY;rw[<-e];exact ho
 ·have hn:=h.st.tn y hy;exact Af.new.keeps (⟨catK hn.1,catK hn.2.1,intK hn.2.2⟩:y.new w w') kl
 ·rcases lo_on y hy with rfl|⟨j,hj,rfl⟩
  ·exact Ae.new.keeps (t:=x) (⟨catK hx0.1,hit.low hM,intK hx0.2.2.1,catK hx0.2.2.2⟩:Ae.new _ _ x) kl
  ·exact(others j hj).keeps kl
 ·rcases lo_on y hy with rfl|⟨j,hj,rfl⟩
  ·exact hroom
  ·rw[FT (show j<lo.length from by omega)];exact h.st.oc _ (List.getElem_mem _)
 ·rw[el,Dn hio,List.length_set];exact h.lO
 ·intro j hj;rw[Dn hio,List.length_set]at hj;rw[Dn hio];by_cases e:j<i
  ·rw[(IZ hio).1 j e,(GM hi).1 j e];exact h.sO j hj
  ·have ej:j=i:=(by omega);subst ej;rw[(IZ hio).2,(GM hi).2];have s:=h.sO j hj;rw[FT hi']at s;obtain⟨s1,s2,s3,s4,s5,s6,_,s8⟩:=s;exact⟨s1,s2,s3,s4,s5,s6,⟨elen.symm,rfl⟩,s8⟩
 ·intro y hy;rw[Dn hio]at hy;rcases List.mem_or_eq_of_mem_set hy with hy|rfl
  ·exact h.dz y hy
  ·exact h.dz (os.getD i zO) (by simp[show i<os.length from by omega])
 ·intro j hj;rw[el]at hj;have ej:j=i:=by omega
  subst ej;refine⟨M,hM,Nat.le_trans hM0 (Nat.le_trans sz kl.size),fun k hk b hb hn=>?_,?_⟩
  ·rw[(GM hi).1 k hk]at hb hn;exact hB k hk b hb hn
  ·rw[(GM hi).2,Dn hio,(IZ hio).2];exact hO'.keeps kl
 ·rw[el];exact kk.other (ng kk) _
end Go.Proofs.YtblapfnglojgjaaGreatDoor
