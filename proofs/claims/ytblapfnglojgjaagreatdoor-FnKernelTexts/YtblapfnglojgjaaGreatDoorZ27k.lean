import Derived.Lib.Join
import Derived.Test.YtblapfnglojgjaaGreatDoorNF4k
set_option maxRecDepth 100000
set_option maxHeartbeats 4000000
namespace Go.Proofs.YtblapfnglojgjaaGreatDoor
open Go Go.RowKit Go.Deep Go.Maps Go.BigFrame Go.Shelf Go.Proofs.Tryz
variable {lt:List Af}{lo:List Ae}
structure UX(lt:List Af)(lo:List Ae):Prop where
 tn:1<=lt.length/\lt.length<=9
 on:1<=lo.length/\lo.length<=271
 t:∀x∈lt,x.small
 o:∀x∈lo,x.small/\(0<=x.id/\x.id<=1000000)/\Te x.up
theorem WM(ok:KU lt lo=true):UX lt lo:=by
 refine⟨Gn ok,FR ok,fun x hx=>(GD ok x hx).small,fun x hx=>?_⟩;have f:=Fs ok x hx;have it:=RE ok x hx;refine⟨⟨by have:=(Cn f.l1).2;omega,by have:=H7 f.data;omega,⟨by omega,fun i hi=>by have:=H7 (it.2 i hi);omega⟩,by have:=Nh f.own;omega,by have:=(Cn f.l2).2;omega⟩,Sl ok x hx,?_⟩;obtain⟨i,hi,e⟩:=List.mem_iff_getElem.1 hx;have e2:Aa lo i=x:=(BM hi).trans e;by_cases h0:i=0
 ·subst h0;have:=(JX ok).2.2;rw[e2]at this;rw[this];exact Te.of (by omega) (by omega)
 ·obtain⟨p,p1,p2,_⟩:=(Cl.1 ok).box i (by omega) hi;have p3:(Aa lo p).id=(Aa lo i).up:=p2;have hp:p<lo.length:=p1;have:=Sl ok _ (List.getElem_mem hp);rw[e2,BM hp]at p3;rw[<-p3];exact Te.of (by omega) (by omega)
theorem Ll.F(h:Ll lt lo):UX lt lo:=by
 cases h with
 |right h=>exact WM h
 |up h u o d hu ho hd=>
  have f:=WM h;refine⟨f.tn,by simpa using f.on,f.t,fun x hx=>?_⟩;rcases Jl hx with rfl|hx
  ·have:=f.o _ (List.getElem_mem hu);rw[<-ho]at this;exact⟨this.1,this.2.1,hd⟩
  ·exact f.o x hx
 |kind h u o d hu ho hd=>
  have f:=WM h;refine⟨f.tn,by simpa using f.on,f.t,fun x hx=>?_⟩;rcases Jl hx with rfl|hx
  ·have:=f.o _ (List.getElem_mem hu);rw[<-ho]at this;exact this
  ·exact f.o x hx
 |made h X d ht hX hd=>
  have f:=WM h;refine⟨by simpa using f.tn,f.on,fun x hx=>?_,f.o⟩;rcases Jl hx with rfl|hx
  ·have:=f.t _ (List.getElem_mem ht);rw[<-hX]at this;exact this
  ·exact f.t x hx
theorem UX.data(h:UX lt lo):∀x∈lo,x.data.size<=maxLen:=fun x hx=>by
 have:=(h.o x hx).1.2.1;unfold maxLen;omega
theorem aw(a:Option Addr)(n cap:Nat)(w:World):Calls prog 4 #[.slice a n cap] w fun e w'=>e= .returned (.bool (decide (1048576<n)))/\w'=w:=by
 go_enter func4,ntmps4
 go_wp2;go_ret;refine⟨Ag ?_,rfl⟩;congr 1;apply propext;omega
open Go.WideShapes (add_plain)
section
variable {t e size bytes:Nat}{z:Value} (hT:prog.underlying t=some (.slice e)) (hI:(prog.info? e).map (fun i=>(i.zero,i.size,i.bytes))=some (some z,size,bytes)) (hzs:z.cells.size=size) (hsz:0<size)
include hT hI hzs hsz
end
open Go.WideShapes (add_plain)
theorem YP(l:List UInt8):(⟨l.toArray⟩:ByteArray).size=l.length:=by simp[ByteArray.size]
theorem Tryz.info5:(prog.info? 5).map (fun i=>(i.zero,i.size,i.bytes))=some (some (.int .u8 0),1,1):=by kernel_rfl
def Pe(l:List UInt8):List Value:=l.map fun b=>Value.int .u8 b.toNat
def SE(w:World)(B:Nat)(v:Value)(l:List UInt8):Prop:=w.ownsRow B 5 1 v l.length (Pe l)
theorem cJ{w:World}(x:Int):Bh (w.alloc (.cells #[.int .u8 x] 5)) (some ⟨w,0,none⟩) 1 [.int .u8 x]:=fun _=>
 ⟨w,0,rfl,by simp,fun j u hu=>by
   cases j with
   |zero=>simp at hu;subst hu;simp
   |succ j=>simp at hu⟩
theorem wpList_append_byte{ops:Array Oper}{rest:List Oper}{o:Oper}{a:Act}{Q:Exit->Act->World->Prop}(w:World)(hgd:o.guard=none)(s x:Operand)
 (ho:o.op= .call {callee:= .builtin .append,args:=#[s,x],argTypes:=#[22,22]})
 (B:Nat)(v:Value)(l:List UInt8)(hs:a.eval s=v)(hown:SE w B v l)(ad:Option Addr)(c:Nat)(b:UInt8)(hx:a.eval x= .slice ad 1 c)(hc:Bh w ad 1 [.int .u8 b.toNat])
 (hm:l.length<=1000)(hB:B<=w.heap.size)
 (h:∀(g:Nat) c' w',SE w' B (.slice g (l++[b]).length c') (l++[b])->w.grownBy w' v.ownBlock->wpList prog ops Q rest (a.put o.dst (.slice g (l++[b]).length c')) w'):wpList prog ops Q (o::rest) a w:=by
 refine wpList_plain hgd fun _ hK=>BR underlying22 Tryz.info5 rfl (by omega) w s x ho B v l.length _ hs hown ad 1 c [.int .u8 b.toNat] hx (by simp) hc (fun u hu=>by simp at hu;subst hu;rfl) (by omega) (by omega) hB fun a' c' w' h2 h3 _=>hK _ _ ?_;have e1:Pe l++[Value.int .u8 b.toNat]=Pe (l++[b]):=by simp[Pe]
 have e2:l.length+1=(l++[b]).length:=by simp
 rw[e1]at h2;obtain⟨g,cap,hv,_,_⟩:=World.ownsRow.form h2 (by omega);simp only[Value.slice.injEq]at hv;obtain⟨rfl,_,_⟩:=hv;rw[e2]at h2 ⊢;exact h g c' w' h2 h3
theorem SE.text{w:World}{B g n c:Nat}{l:List UInt8}(h:SE w B (.slice g n c) l)(hn:n=l.length):(convert 22 9 (.slice g n c)).run prog w= .ok (.string ⟨l.toArray⟩) w:=by
 subst hn;refine run_convert_bytes_back (P:=prog) w 22 9 5 ⟨g,0,none⟩ c l underlying22 underlying5 underlying9 fun j hj=>?_;exact World.ownsRow.cells h (g:=g) rfl j _ (by simp[Pe,hj])
theorem TP(w0:World)(rb:Nat)(a:Option Addr)(n cap:Nat)(w:World)(h:Rd w0 w rb a n cap):
 Calls prog 56 #[.pointer rb,.int .i64 2] w fun e w'=>∃s:ByteArray,e= .returned (.string s)/\s.size<=2/\Rd w0 w' rb a n cap/\w.grownBy w' (some rb):=by
 have hrb:rb<w.heap.size:=h.lt;have K0:=CY w (.cells #[] 5);have R0:=h.below K0;have n1:Nv (.slice (w) 0 0):=⟨⟩;have O0:SE (w.alloc (.cells #[] 5)) w n1 []:=World.ownsRow_made w #[] 0 nr (Nat.zero_le _) rfl;have g0:=World.grownBy_alloc w (.cells #[] 5) (some rb);go_enter func56,ntmps56
 go_wp2_with fail
 refine(Ax w0 rb a n cap 3 _ (by omega) R0).mono ?_;rintro e w1 ⟨x,rfl,_,hx3,R1,hg1⟩;have O1:SE w1 w n1 []:=World.ownsRow.kept O0 hg1 (Or.inr (fun e=>by have:=(World.ownsRow.lt O0 _ e).1;omega));have G1:w.grownBy w1 (some rb):=BH g0 hg1;have hx:x<3:=hx3 (by omega);clear K0 R0 O0 g0 hg1 h;go_wp2_with fail
 go_loopw [5,6] (fun v i wr=>∃(j:Nat) (l:List UInt8) (g c:Nat),l.length+j<=2/\i= .int .i64 j/\v= .slice g l.length c/\SE wr w (.slice g l.length c) l/\Rd w0 wr rb a n cap/\w.grownBy wr (some rb)) (fun _ i _=>(intOf i).toNat)
 case atStart=>exact⟨x,[],w,0,by simp;omega,rfl,rfl,O1,R1,G1⟩
 case round=>
  obtain⟨j,l,g,c,hl,rfl,rfl,O,R,G⟩:=hrel;clear O1 R1 G1;by_cases hj:0<j
  ·have hj':(0:Int)<(j:Int):=(by omega);go_wp2_with fail
   refine(Ax w0 rb a n cap 256 _ (by omega) R).mono ?_;rintro e w2 ⟨y,rfl,_,hy,R2,hg2⟩;have hy':y<256:=hy (by omega);have hyi:(y:Int)<256:=(by omega);have n3:Nv (.slice g l.length c):=⟨⟩;have O2:SE w2 w n3 l:=World.ownsRow.kept O hg2 (Or.inr (fun e=>by have:=(World.ownsRow.lt O _ e).1;omega));have G2:w.grownBy w2 (some rb):=BH G hg2;have sz:w.heap.size<=w2.heap.size:=G2.size;have eb:((UInt8.ofNat y).toNat:Int)=(y:Int):=(by rw[UInt8.toNat_ofNat_of_lt' (by simp[UInt8.size];omega)]);have n2:No (.cells #[.int .u8 y] 5):=⟨⟩;have HL:Hid (Bh (w2.alloc n2) (some ⟨w2,0,none⟩) 1 [.int .u8 (UInt8.ofNat y).toNat]):=by
    show Bh _ _ _ _;rw[eb];exact cJ _
   have HO:Hid (SE (w2.alloc n2) w n3 l):=World.ownsRow.alloc O2 _;have lm:l.length<=1000:=(by omega);clear O R G hg2 eb;go_wp2_with(at_builtin;refine wpList_append_byte _ rfl _ _ rfl w _ l rfl HO _ 1 (UInt8.ofNat y) rfl HL lm (Nat.le_trans sz (by simp)) ?_;intro g' c' w3 O3 hg3)
   have hgB:w.heap.size<=g:=(World.ownsRow.lt HO g rfl).1;have hle:=R2.le;have R3:Rd w0 w3 rb a n cap:=(R2.below ((Below.refl _ w2).alloc nr n2)).other hg3 (by dsimp only;omega) (by dsimp only;omega);have G3:w.grownBy w3 (some rb):=Da (Da G2 (World.grownBy_alloc w2 _ none) (fun j e=>by cases e)) hg3 (fun j e=>by cases e;exact hgB);go_roundw;case rel=>
    obtain⟨q,rfl⟩:∃q,j=q+1:=⟨j-1,by omega⟩;refine⟨q,l++[UInt8.ofNat y],g',c',by rw[List.length_append];simp;omega,by go_num,?_,O3,R3,G3⟩;first|rfl|simp
   case measure=>simp[intOf];omega
  ·obtain rfl:j=0:=by omega
   have k1:=O.text rfl;go_wp2;go_ret;exact⟨_,rfl,by rw[YP];omega,R,G⟩
theorem Mj(w0:World)(rb:Nat)(a:Option Addr)(n cap:Nat)(m:Nat)(w:World)(hm:m<=1000000)(h:Rd w0 w rb a n cap):
 Calls prog 33 #[.pointer rb,.int .i64 m] w fun e w'=>∃x:Nat,e= .returned (.int .i64 x)/\x<m+1/\(1<=m->x<m)/\Rd w0 w' rb a n cap/\w.grownBy w' (some rb):=by
 have HR:Hid (Rd w0 w rb a n cap):=h;clear h;by_cases t:m<=1
 ·have t':(m:Int)<=1:=by omega
  go_enter func33,ntmps33
  go_wp2;go_ret;exact⟨0,rfl,by omega,by omega,HR,Bs _ _⟩
 ·have t':¬(m:Int)<=1:=by omega
  have m0:(m:Int)≠0:=by omega
  by_cases t2:m<=256
  ·have t2':(m:Int)<=256:=(by omega);go_enter func33,ntmps33
   go_wp2_with fail
   refine(Hv w0 rb a n cap _ HR).mono ?_;rintro e w1 ⟨x,rfl,x0,x1,R1,g1⟩;obtain⟨y,rfl⟩:∃y:Nat,x=y:=⟨x.toNat,by omega⟩;have HR1:Hid (Rd w0 w1 rb a n cap):=R1;clear R1;go_wp2;go_ret;refine⟨y%m,GI ?_,?_,fun _=>Nat.mod_lt _ (by omega),HR1,g1⟩
   ·simp
   ·have:=Nat.mod_lt y (show 0<m by omega);omega
  ·have t2':¬(m:Int)<=256:=(by omega);go_enter func33,ntmps33
   go_wp2_with fail
   refine(Hv w0 rb a n cap _ HR).mono ?_;rintro e w1 ⟨x,rfl,x0,x1,R1,g1⟩;obtain⟨y,rfl⟩:∃y:Nat,x=y:=⟨x.toNat,by omega⟩;have wy:IntKind.i64.wrap ((y:Int)*256)=(y:Int)*256:=(by rw[IntKind.wrap_i64];omega);have HR1:Hid (Rd w0 w1 rb a n cap):=R1;clear R1;go_wp2_with fail
   refine(Hv w0 rb a n cap _ HR1).mono ?_;rintro e w2 ⟨x,rfl,x2,x3,R2,g2⟩;obtain⟨z,rfl⟩:∃z:Nat,x=z:=⟨x.toNat,by omega⟩;have wz:IntKind.i64.wrap ((y:Int)*256+(z:Int))=(y:Int)*256+(z:Int):=(by rw[IntKind.wrap_i64];omega);have yz:(0:Int)<=(y:Int)*256+(z:Int):=(by omega);have HR2:Hid (Rd w0 w2 rb a n cap):=R2;clear R2;go_wp2;go_ret;refine⟨(y*256+z)%m,GI ?_,?_,fun _=>Nat.mod_lt _ (by omega),HR2,BH g1 g2⟩
   ·simp
   ·have:=Nat.mod_lt (y*256+z) (show 0<m by omega);omega
def Ye:Nat->ByteArray
 |0=>⟨#[48]⟩
 |1=>⟨#[49]⟩
 |2=>⟨#[32]⟩
 |3=>⟨#[44]⟩
 |_=>⟨#[58]⟩
def He:Obj:= .cells #[.string ⟨#[48]⟩,.string ⟨#[49]⟩,.string ⟨#[32]⟩,.string ⟨#[44]⟩,.string ⟨#[58]⟩] 9
theorem WJ{W:World}{b x:Nat}(h:W.heap[b]? =some He)(hx:x<5):W.cell? ⟨b,x,none⟩=some (.string (Ye x)):=by
 simp only[World.cell?,h,He];match x,hx with
 |0,_=>rfl
 |1,_=>rfl
 |2,_=>rfl
 |3,_=>rfl
 |4,_=>rfl
theorem Mu(x:Nat):(Ye x).size=1:=by unfold Ye;split<;>rfl
theorem Zn(w0:World)(rb:Nat)(a:Option Addr)(n cap:Nat)(s:ByteArray)(w:World)(hs:s.size<=600000)(h:Rd w0 w rb a n cap):
 Calls prog 27 #[.pointer rb,.string s] w fun e w'=>∃t:ByteArray,e= .returned (.string t)/\t.size<=s.size+2/\Below w0 w0 w':=by
 have HR:=hid h;clear h;go_enter func27,ntmps27
 go_wp2_with fail
 refine(Ax _ rb a n cap 6 _ (by omega) HR).mono ?_;rintro e w1 ⟨x,rfl,_,hx6,R1,_⟩;have hx:x<6:=hx6 (by omega);have HR1:=hid R1;clear R1 hx6;by_cases t0:x=0
 ·subst t0;go_wp2_with fail
  refine(TP _ rb a n cap _ HR1).mono ?_;rintro e w2 ⟨t,rfl,ht,R2,_⟩;have E2:=R2.E;clear R2;have r1:¬9223372036854775807<s.size+t.size:=by omega
  go_wp2;go_ret;exact⟨_,rfl,by rw[ByteArray.size_append];omega,E2⟩
 by_cases t1:x=1
 ·subst t1;have w1':IntKind.i64.wrap ((s.size:Int)+1)=(s.size:Int)+1:=by rw[IntKind.wrap_i64];omega
  go_wp2_with fail
  refine(Mj _ rb a n cap (s.size+1) _ (by omega) HR1).mono ?_;rintro e w2 ⟨y,rfl,_,hy,R2,_⟩;have hy':y<=s.size:=by have:=hy (by omega);omega
  have hy2:(y:Int)<=(s.size:Int):=by omega
  have E2:=R2.E;clear R2;go_wp2;go_ret;exact⟨_,rfl,by rw[ByteArray.size_extract];omega,E2⟩
 have t0':((x:Int)==0)=false:=by simpa using t0
 have t1':((x:Int)==1)=false:=by simp;omega
 by_cases t2:x=2
 ·subst t2;by_cases hs0:0<s.size
  ·have hs0':(0:Int)<(s.size:Int):=(by omega);go_wp2_with fail
   refine(Mj _ rb a n cap s.size _ (by omega) HR1).mono ?_;rintro e w2 ⟨y,rfl,_,hy,R2,_⟩;have hy':y<s.size:=hy (by omega);have y1:(y:Int)<=(s.size:Int):=(by omega);have y2:(y:Int)+1<=(s.size:Int):=(by omega);have y3:(0:Int)<=(y:Int)+1:=(by omega);have y4:IntKind.i64.wrap ((y:Int)+1)=(y:Int)+1:=(by rw[IntKind.wrap_i64];omega);obtain⟨A1,hA1,hz1⟩:∃A,s.extract 0 y=A/\A.size<=s.size:=⟨_,rfl,by rw[ByteArray.size_extract];omega⟩;obtain⟨A2,hA2,hz2⟩:∃A,s.extract (y+1) s.size=A/\A.size+y+1=s.size:=⟨_,rfl,by rw[ByteArray.size_extract];omega⟩;have hz3:A1.size=y:=(by rw[<-hA1,ByteArray.size_extract];omega);have HZ3:=hid hz3;have HZ2:=hid hz2;have RA:Hid (∀W,Below w2 w2 W->Rd w0 W rb a n cap):=fun W h=>R2.below h;have B1:Hid (Below w2 w2 w2.drew):=(Below.refl _ w2).drew;have B2:Hid (Below w2 w2 (w2.alloc He).drew):=((Below.refl _ w2).alloc nr He).drew;have rlt:=R2.lt;have BK:Hid ((w2.alloc He).drew.heap[w2.heap.size]? =some He):=heap_alloc_new _ _;clear R2 hy hz2 hz3;go_wp2;have n5:∀(W:World) (z:Nat),z<5->(W.alloc (.cells #[.string ⟨#[48]⟩,.string ⟨#[49]⟩,.string ⟨#[32]⟩,.string ⟨#[44]⟩,.string ⟨#[58]⟩] 9)).cell? ⟨W,z,none⟩=some (.string (Ye z)):=fun W z hz=>WJ (W:=W.alloc He) (heap_alloc_new _ _) hz;have N5:=hid n5;clear n5;have HQ1:Hid (w2.heap.size<(w2.alloc He).drew.heap.size):=(by show _<(w2.alloc He).heap.size;rw[World.size_alloc];omega);have HQ2:Hid (some w2.heap.size≠some rb):=fun e=>by have:=Option.some.inj e;omega
   have HS1:Hid (∀z,¬9223372036854775807<A1.size+(Ye z).size):=fun z=>by rw[Mu];omega
   have HS2:Hid (∀z,¬9223372036854775807<A1.size+(Ye z).size+A2.size):=fun z=>by rw[Mu];have:=HZ2.out;omega
   have RA1:=hid (RA.out _ B1);have RA2:=hid (RA.out _ B2);go_region_with (first
    |(go_at_call 33;refine(Ax w0 rb a n cap 5 _ (by decide) RA1).mono ?_;rintro e w3 ⟨z,rfl,_,hz,R3,g3⟩;have hz':z<5:=hz (by decide);have z5:(z:Int)<5:=Int.ofNat_lt.2 hz';have n5:=N5.out w3 z hz';have r1:=HS1.out z;have r2:=HS2.out z)
    |(go_at_call 33;refine(Ax w0 rb a n cap 5 _ (by decide) RA2).mono ?_;rintro e w3 ⟨z,rfl,_,hz,R3,g3⟩;have hz':z<5:=hz (by decide);have z5:(z:Int)<5:=Int.ofNat_lt.2 hz';have n5:=WJ ((g3.block w2 HQ1 HQ2).trans BK) hz';have r1:=HS1.out z;have r2:=HS2.out z))
   all_goals(
    have E3:=R3.E;clear R3;go_wp2;go_ret;refine⟨_,rfl,?_,?_⟩
    ·rw[ByteArray.size_append,ByteArray.size_append,Mu];have:=HZ2.out;have:=HZ3.out;omega
    ·first|exact E3|exact E3.alloc E3.size _)
  ·have hs0':¬(0:Int)<(s.size:Int):=(by omega);have E2:=HR1.out.E;go_wp2;go_ret;exact⟨_,rfl,by omega,E2⟩
 ·have t2':((x:Int)==2)=false:=by simp;omega
  have E2:=HR1.out.E;go_wp2;go_ret;exact⟨_,rfl,by omega,E2⟩
theorem Jr(x:Int)(w:World)(h0:0<=x)(h1:x<=10000000000):
 Calls prog 20 #[.int .i64 x] w fun e w'=>e= .returned (.string ⟨(Bt x.toNat).toArray⟩)/\Below w w w':=by
 obtain⟨n,rfl⟩:=Int.eq_ofNat_of_zero_le h0;exact Kg n w (by omega)
def AL(f g:Nat->Int)(k:Nat):List (Int×Int):=(List.range k).map fun i=>(f i,g i)
theorem Is(f g:Nat->Int)(k:Nat):AL f g (k+1)=AL f g k++[(f k,g k)]:=by simp[AL,List.range_succ]
theorem WH(base:Int)(f g:Nat->Int)(k:Nat)(hb:base.toNat<=10000000000)(hc:∀i,i<k->(f i).toNat<=10000000000/\(g i).toNat<=10000000000):(GR base (AL f g k)).length<=10000000001+k*20000000010:=by
 induction k with
 |zero=>simp[GR,AL];have:=Ep base.toNat;omega
 |succ k ih=>
  rw[Is,JI,List.length_append];have:=ih (fun i hi=>hc i (by omega));have h1:=Ep (f k).toNat;have h2:=Ep (g k).toNat;have h3:=hc k (by omega);simp only[Ex,List.length_cons,List.length_append];omega
theorem Oo(base:Int)(a:Option Addr)(n cap:Nat)(f g:Nat->Int)(w:World)(hn:n<=12)(hc:Bi w a n f g)(hb:0<=base/\base<=10000000000)(hf:∀i,i<n->0<=f i/\f i<=10000000000)(hg:∀i,i<n->0<=g i/\g i<=10000000000):
 Calls prog 21 #[.agg #[.int .i64 base,.slice a n cap]] w fun e w'=>e= .returned (.string ⟨(GR base (AL f g n)).toArray⟩)/\Below w w w':=by
 have n1:No (.cells #[.int .i64 base,.slice a n cap] 44):=⟨⟩;have L0:=(Below.refl _ w).alloc nr n1;have A0:=Ai.new w n1;obtain⟨x1,x2⟩:=A0.two;go_enter func21,ntmps21
 go_wp2_with fail
 refine(Jr base _ hb.1 hb.2).mono ?_;rintro e w1 ⟨rfl,hb1⟩;have A1:=A0.below hb1;have L1:Below w w w1:=L0.trans (hb1.mono L0.size);have hc1:=hc.below L1;clear x1 x2 A0 L0 hb1;go_wp2_with fail
 go_loopw [3,4] (fun s i wr=>∃k:Nat,k<=n/\i= .int .i64 k/\s= .string ⟨(GR base (AL f g k)).toArray⟩/\Below w1 w1 wr) (fun _ i _=>n-(intOf i).toNat)
 case atStart=>exact⟨0,Nat.zero_le _,rfl,by simp[GR,AL],Below.refl _ _⟩
 case round=>
  obtain⟨k,hk,rfl,rfl,hB⟩:=hrel;have lk:=WH base f g k (by omega) (fun i hi=>by have:=hf i (by omega);have:=hg i (by omega);omega);have Ar:=A1.below hB;obtain⟨x1,x2⟩:=Ar.two;by_cases hlt:k<n
  ·have hki:(k:Int)<(n:Int):=(by omega);obtain⟨b,off,rfl,hbl,hcc⟩:=hc1 (by omega);obtain⟨c1,c2⟩:=hcc k hlt;have g1:wr.cell? ⟨b,off+k*2,none⟩=some (.int .i64 (f k)):=(hB.cell (p:=⟨b,_,none⟩) hbl).trans c1;have g2:wr.cell? ⟨b,off+k*2+1,none⟩=some (.int .i64 (g k)):=(hB.cell (p:=⟨b,_,none⟩) hbl).trans c2;have hf0:=hf k hlt;have hg0:=hg k hlt;have hD1:=Ep (f k).toNat;have hD2:=Ep (g k).toNat;have P1:Hid (∀v:World,Calls prog 20 #[.int .i64 (f k)] v fun e w'=>e= .returned (.string ⟨(Bt (f k).toNat).toArray⟩)/\Below v v w'):=fun v=>Jr (f k) v hf0.1 hf0.2;have P2:Hid (∀v:World,Calls prog 20 #[.int .i64 (g k)] v fun e w'=>e= .returned (.string ⟨(Bt (g k).toNat).toArray⟩)/\Below v v w'):=fun v=>Jr (g k) v hg0.1 hg0.2;have HT:Hid (GR base (AL f g (k+1))=GR base (AL f g k)++44::(Bt (f k).toNat++58::Bt (g k).toNat)):=by
    show _=_;rw[Is,JI];rfl
   have Ad:Ai wr.drew w (.cells #[.int .i64 base,.slice (some ⟨b,off,none⟩) n cap] 44):=Ar;have hbd:b<wr.drew.heap.size:=Nat.lt_of_lt_of_le hbl hB.size;have gd1:wr.drew.cell? ⟨b,off+k*2,none⟩=some (.int .i64 (f k)):=g1;have gd2:wr.drew.cell? ⟨b,off+k*2+1,none⟩=some (.int .i64 (g k)):=g2;clear hc hc1 hcc hf hg c1 c2;generalize hT:GR base (AL f g k)=T at *;generalize hE1:Bt (f k).toNat=D1 at *;generalize hE2:Bt (g k).toNat=D2 at *;generalize f k=fk at *;generalize g k=gk at *;have hD1':D1.length<=10000000001:=(by omega);have hD2':D2.length<=10000000001:=(by omega);have lk':T.length<=1000000000000:=(by omega);have r1:¬9223372036854775807<T.length+1:=(by omega);have r2:¬9223372036854775807<T.length+1+D1.length:=(by omega);have r3:¬9223372036854775807<T.length+1+D1.length+1:=(by omega);have r4:¬9223372036854775807<T.length+1+D1.length+1+D2.length:=(by omega);clear hT hE1 hE2 hD1 hD2 lk hf0 hg0;go_wp2_with fail
   go_region_held3(fun w'=>w'.cell? ⟨w,0,none⟩=some (.int .i64 base)/\w'.cell? ⟨w,1,none⟩=some (.slice (some ⟨b,off,none⟩) n cap)/\w'.cell? ⟨b,off+k*2,none⟩=some (.int .i64 fk)/\w'.cell? ⟨b,off+k*2+1,none⟩=some (.int .i64 gk)) (go_keep)
    (first
      |(go_at_call 20;have hq:=hb7;refine(P2 _).mono ?_;rintro e w8 ⟨rfl,hb8⟩;obtain⟨t1,t2⟩:=((Ad.below hb7).below hb8).two;have t3:=(hb8.cell (p:=⟨b,off+k*2,none⟩) (Nat.lt_of_lt_of_le hbd hb7.size)).trans y3;have t4:=(hb8.cell (p:=⟨b,off+k*2+1,none⟩) (Nat.lt_of_lt_of_le hbd hb7.size)).trans y4)
      |(go_at_call 20;refine(P1 _).mono ?_;rintro e w7 ⟨rfl,hb7⟩;obtain⟨y1,y2⟩:=(Ad.below hb7).two;have y3:=(hb7.cell (p:=⟨b,off+k*2,none⟩) hbd).trans gd1;have y4:=(hb7.cell (p:=⟨b,off+k*2+1,none⟩) hbd).trans gd2))
   go_wp2;go_roundw;case rel=>
    refine⟨k+1,by omega,by go_num,?_,(hB.drew.trans (hb7.mono hB.size)).trans (hb8.mono (Nat.le_trans hB.size hb7.size))⟩;have ea:(⟨#[44]⟩:ByteArray)=⟨[44].toArray⟩:=rfl;have eb:(⟨#[58]⟩:ByteArray)=⟨[58].toArray⟩:=rfl;rw[ea,eb,DG,DG,DG,DG,HT.out];simp
   case measure=>simp[intOf];omega
  ·have hki:¬(k:Int)<(n:Int):=(by omega);have ek:k=n:=(by omega);subst ek;go_wp2;go_ret;exact⟨rfl,L1.trans (hB.mono L1.size)⟩

variable {w w':World}
def U4(b:Int):Option (List (Int×Int))->Int×List (Int×Int)×Bool
 |some cats=>if AO b cats.length (Az cats) (Ay cats)=true then(b,cats,true)else(0,[],false)
 |none=>(0,[],false)
def Al(L:List UInt8):Int×List (Int×Int)×Bool:=
 if okD (Ak 44 L).1=true then U4 (CF (Ak 44 L).1) (gather 12 (Ak 44 L).2.1 (Ak 44 L).2.2 [])else(0,[],false)
def Gg(r:Int×List (Int×Int)×Bool)(w:World)(e:Ending)(w':World):Prop:=
 ∃a k,e= .returned (.tuple #[.agg #[.int .i64 r.1,.slice a r.2.1.length k],.bool r.2.2])/\An w' w (.slice a r.2.1.length k) r.2.1/\Below w w w'
theorem An.nil(w:World)(B:Nat):An w B (.slice none 0 0) []:=As.nil _ _ _ _
theorem Gg.no{r:Int×List (Int×Int)×Bool}(hr:r=(0,[],false))(hb:Below w w w'):Gg r w (.returned (.tuple #[.agg #[.int .i64 0,.slice none 0 0],.bool false])) w':=by
 subst hr;exact⟨none,0,rfl,An.nil _ _,hb⟩
theorem Gg.yes{r:Int×List (Int×Int)×Bool}{b:Int}{l:List (Int×Int)}{a:Option Addr}{k:Nat}(hr:r=(b,l,true))(ho:An w' w (.slice a l.length k) l)(hb:Below w w w'):Gg r w (.returned (.tuple #[.agg #[.int .i64 b,.slice a l.length k],.bool true])) w':=by
 subst hr;exact⟨a,k,rfl,ho,hb⟩
theorem I6{c:UInt8}{L:List UInt8}(h:(Ak c L).2.2=true):(Ak c L).2.1.length+1<=L.length:=by
 have:=congrArg List.length (Hh c L);rw[h,if_pos rfl,List.length_append,List.length_cons]at this;omega
def KJ:Value->Nat
 | .string s=>s.size
 |_=>0
def MW:Value->Nat
 | .bool true=>1
 |_=>0
theorem M5(L:List UInt8):(Ak 44 L).2.1.length+(if (Ak 44 L).2.2=true then 1 else 0)<L.length+1:=by
 cases h:(Ak 44 L).2.2 with
 |true=>have:=I6 h;simp;omega
 |false=>have:=My 44 L h;rw[this];simp
theorem EF(n:Nat)(R:List UInt8)(l:List (Int×Int)):gather n R false l=some l:=by cases n<;>rfl
theorem Ub(R:List UInt8)(l:List (Int×Int)):gather 0 R true l=none:=rfl
theorem Ou(n:Nat)(R:List UInt8)(l:List (Int×Int))(h:DO (Ak 44 R).1=false):gather n R true l=none:=by
 cases n with
 |zero=>rfl
 |succ n=>simp[gather,h]
theorem If(n:Nat)(R:List UInt8)(l:List (Int×Int))(h:DO (Ak 44 R).1=true):gather (n+1) R true l=gather n (Ak 44 R).2.1 (Ak 44 R).2.2 (l++[LL (Ak 44 R).1]):=by simp[gather,h]
theorem M6(l:List (Int×Int)):AL (Az l) (Ay l) l.length=l:=by
 apply List.ext_getElem
 ·simp[AL]
 ·intro i h1 h2;simp[AL,Az,Ay,h2]
def Fo(base:Int)(n:Nat)(f g:Nat->Int):List UInt8:=if AO base n f g=true then GR base (AL f g n)else[]
theorem It(base:Int)(a:Option Addr)(n cap:Nat)(f g:Nat->Int)(w:World)(hn:n<=maxLen)(hc:Bi w a n f g):
 Calls prog 58 #[.agg #[.int .i64 base,.slice a n cap]] w fun e w'=>e= .returned (.string ⟨(Fo base n f g).toArray⟩)/\Below w w w':=by
 have n1:No (.cells #[.int .i64 base,.slice a n cap] 44):=⟨⟩;have L0:=(Below.refl _ w).alloc nr n1;have A0:=Ai.new w n1;obtain⟨x1,x2⟩:=A0.two;go_enter func58,ntmps58
 go_wp2_with fail
 refine(GC _ _ _ _ f g _ hn (hc.below L0)).mono ?_;rintro e w1 ⟨rfl,hb1⟩;have L1:Below w w w1:=L0.trans (hb1.mono L0.size);have A1:=A0.below hb1;clear x1 x2 A0 L0 hb1;obtain⟨x1,x2⟩:=A1.two;cases h:AO base n f g with
 |false=>
  go_wp2;go_ret;exact⟨by simp[Fo,h],L1⟩
 |true=>
  obtain⟨h1,h2,h3⟩:=Gy h;have h1':=Cv.1 h1;go_wp2_with fail
  refine(Oo _ _ _ _ f g _ h2 (hc.below L1) (by omega) (fun i hi=>by have:=Jh.1 (h3 i hi);omega) (fun i hi=>by have:=Jh.1 (h3 i hi);omega)).mono ?_;rintro e w2 ⟨rfl,hb2⟩;clear h3;go_wp2;go_ret;exact⟨by simp[Fo,h],L1.trans (hb2.mono L1.size)⟩
theorem Jt{k:AJ}(h:AW k=true):BU k.on k.O=true:=by
 simp only[AW,Bool.and_eq_true]at h;exact h.1.1.1.2
theorem aD{k:AJ}(h:AW k=true){c:Nat}(hc:c<k.on)(h0:c≠0):∃u,Bv (fun i=>(k.O i).id) k.on (k.O c).up=some u:=by
 have hp:IK k.on k.O=true:=by
  simp only[AW,Bool.and_eq_true]at h;exact h.1.2
 have hu:=Gc hp (c-1) (by omega);have e:c-1+1=c:=by omega
 simp only[e]at hu;unfold FX at hu;split at hu
 ·rename_i u hu';exact⟨u,hu'⟩
 ·cases hu
variable {b:Int}{c:AH}{t:Af}{o:Ae}{ks:List Int}{n i:Nat}{k:AJ}
theorem Sq(k:Nat):∀n,n<10^(k+1)->(Bt n).length<=k+1:=by
 induction k with
 |zero=>intro n h;rw[Cr (by simpa using h)];simp
 |succ k ih=>
  intro n h;by_cases hs:n<10
  ·rw[Cr hs];simp
  ·rw[Er hs,List.length_append];have:=ih (n/10) (by rw[Nat.pow_succ]at h;omega);simp;omega
def dc(x:Int):List UInt8:=Bt x.toNat
def lb(b:Int)(c:AH):List UInt8:=GR b (AL c.f c.g c.n)
def bl(ns:List Int):List UInt8:=(ns.map fun x=>32::dc x).flatten
def AF(c:AU):List Int:=(List.range c.n).map c.h
theorem aR(ns:List Int)(x:Int):bl (ns++[x])=bl ns++32::dc x:=by simp[bl]
def small(x:Int):Prop:=0<=x/\x<=9999
theorem Ec{x:Int}(h:small x):(dc x).length<=4:=Sq 3 _ (by have:=h.2;have:=h.1;show x.toNat<10000;omega)
theorem Lf{ns:List Int}(h:∀x∈ns,small x):(bl ns).length<=5*ns.length:=by
 induction ns with
 |nil=>simp[bl]
 |cons x ns ih=>
  have h1:=ih (fun y hy=>h y (List.mem_cons_of_mem _ hy));have h2:=Ec (h x (List.mem_cons_self ..));have e:bl (x::ns)=(32::dc x)++bl ns:=by simp[bl]
  rw[e,List.length_append,List.length_cons,List.length_cons];omega
theorem Qz(h:AO b c.n c.f c.g=true):small b/\c.n<=12/\∀i,i<c.n->small (c.f i)/\small (c.g i):=by
 obtain⟨h1,h2,h3⟩:=Gy h;have h1':=Cv.1 h1;refine⟨⟨h1'.1,by have:=h1'.2;omega⟩,h2,fun i hi=>?_⟩;have:=h3 i hi;simp only[Db,Bool.and_eq_true]at this;have f1:=Cv.1 this.1.1.1;have g1:=Cv.1 this.1.1.2;exact⟨⟨by omega,f1.2⟩,⟨g1.1,by omega⟩⟩
theorem IE(h:AO b c.n c.f c.g=true):(lb b c).length<=200:=by
 obtain⟨h1,h2,h3⟩:=Qz h;have key:∀k,k<=c.n->(GR b (AL c.f c.g k)).length<=4+k*10:=fun k=>by
  induction k with
  |zero=>intro _;simp[GR,AL];exact Ec h1
  |succ k ih=>
   intro hk;have:=ih (by omega);have d1:=Ec (h3 k (by omega)).1;have d2:=Ec (h3 k (by omega)).2;unfold dc at d1 d2;rw[Is,JI,List.length_append];simp only[Ex,List.length_cons,List.length_append];omega
 have:=key c.n nr;unfold lb;omega
theorem BF{c:AU}(h:Cg c.n c.h=true):c.n<=10/\∀x∈AF c,small x:=by
 obtain⟨h1,h2⟩:=Yb h;refine⟨h1,fun x hx=>?_⟩;unfold AF at hx;obtain⟨i,hi,rfl⟩:=List.mem_map.1 hx;have:=h2 i (List.mem_range.1 hi);simp only[Ds,Bool.and_eq_true]at this;have f1:=Cv.1 this.1;exact⟨by omega,f1.2⟩
theorem Ho(c:AU):(AF c).length=c.n:=by simp[AF]
def Gh:List UInt8:=[116,104,114,101,97,100]
def Fj:List UInt8:=[111,98,106,101,99,116]
def Hz:List UInt8:=[100,97,116,97]
def En:List UInt8:=[105,116,101,109]
def Dk(ws:List (List UInt8)):List UInt8:=Lib.join ws [32]++[10]
def II(t:Af):List UInt8:=Dk ([Gh,dc t.id,lb t.b1 t.c1,lb t.b2 t.c2,dc t.made]++(AF t.own).map dc)
def EV(o:Ae)(ks:List Int):List UInt8:=Dk ([Fj,dc o.id,dc o.kind,dc o.up,lb o.b1 o.c1,lb o.b2 o.c2]++(AF o.own).map dc++ks.map dc)
def Fl(d:ByteArray):List UInt8:=if d.toList.isEmpty=true then[]else Dk [Hz,d.data.toList]
def Ek(f:Nat->ByteArray)(j:Nat):List UInt8:=((List.range j).map fun i=>Dk [En,(f i).data.toList]).flatten
theorem IX(f:Nat->ByteArray)(j:Nat):Ek f (j+1)=Ek f j++Dk [En,(f j).data.toList]:=by simp[Ek,List.range_succ]
def objT(o:Ae)(ks:List Int):List UInt8:=EV o ks++Fl o.data++Ek o.jA.f o.jA.n
def CI(T:Nat->Af)(n:Nat):List UInt8:=((List.range n).map fun i=>II (T i)).flatten
def Dj(O:Nat->Ae)(n:Nat):List UInt8:=((List.range n).map fun i=>objT (O i) []).flatten
theorem Jk(T:Nat->Af)(n:Nat):CI T (n+1)=CI T n++II (T n):=by simp[CI,List.range_succ]
theorem Jq(O:Nat->Ae)(n:Nat):Dj O (n+1)=Dj O n++objT (O n) []:=by simp[Dj,List.range_succ]
def By(k:AJ):ByteArray:=if AW k=true then⟨(CI k.T k.tn++Dj k.O k.on).toArray⟩else⟨#[]⟩
theorem PE(t:Af):II t=Gh++[32]++dc t.id++[32]++lb t.b1 t.c1++[32]++lb t.b2 t.c2++[32]++dc t.made++bl (AF t.own)++[10]:=by
 unfold II Dk;rw[List.cons_append,Lib.join_cons];simp[Lib.joinTail,bl,Function.comp_def]
theorem PR(o:Ae)(ks:List Int):EV o ks=Fj++[32]++dc o.id++[32]++dc o.kind++[32]++dc o.up++[32]++lb o.b1 o.c1++[32]++lb o.b2 o.c2++bl (AF o.own)++bl ks++[10]:=by
 unfold EV Dk;rw[List.cons_append,List.cons_append,Lib.join_cons];simp[Lib.joinTail,bl,Function.comp_def]
theorem GU(a b:List UInt8):Dk [a,b]=a++[32]++b++[10]:=by
 unfold Dk;rw[Lib.join_cons];simp[Lib.joinTail]
theorem IL(h:Cj t=true):small t.id/\small t.made/\AO t.b1 t.c1.n t.c1.f t.c1.g=true/\AO t.b2 t.c2.n t.c2.f t.c2.g=true/\Cg t.own.n t.own.h=true:=by
 simp only[Cj,Fa,Bool.and_eq_true]at h;have h1:=Cv.1 h.1.1.1.1;have h5:=Cv.1 h.2;exact⟨⟨by omega,by omega⟩,⟨h5.1,by omega⟩,h.1.1.1.2,h.1.1.2,h.1.2⟩
theorem TG(h:Cj t=true):(II t).length<=1000:=by
 obtain⟨h1,h2,h3,h4,h5⟩:=IL h;have d1:=Ec h1;have d2:=Ec h2;have d3:=IE h3;have d4:=IE h4;have d5:=Lf (BF h5).2;have d6:=(BF h5).1;rw[Ho]at d5;rw[PE];simp only[List.length_append,Gh,List.length_cons,List.length_nil];omega
theorem Hn(h:Bz o=true):AO o.b1 o.c1.n o.c1.f o.c1.g=true/\AO o.b2 o.c2.n o.c2.f o.c2.g=true/\Cg o.own.n o.own.h=true/\o.data.size<=40/\o.jA.n<=8/\(∀i,i<o.jA.n->(o.jA.f i).size<=40)/\small o.kind:=by
 simp only[Bz,Bool.and_eq_true]at h;obtain⟨⟨⟨⟨⟨h1,h2⟩,h3⟩,h4⟩,h5⟩,h6⟩:=h;obtain⟨i1,i2⟩:=OJ h5;have p:∀{s:ByteArray},Bp s 40=true->s.size<=40:=fun hs=>by
  simp only[Bp,Bool.and_eq_true,decide_eq_true_eq]at hs;omega
 refine⟨h1,h2,h3,p h4,i1,fun i hi=>p (i2 i hi),?_⟩;unfold Gk at h6;unfold small;split at h6
 ·omega
 ·split at h6
  ·omega
  ·split at h6
   ·omega
   ·split at h6
    ·omega
    ·cases h6
theorem Oe(h:Bz o=true)(h1:small o.id)(h2:small o.up)(hk:∀x∈ks,small x)(hn:ks.length<=271):(EV o ks).length<=3000:=by
 obtain⟨p1,p2,p3,p4,p5,p6,p7⟩:=Hn h;have d1:=Ec h1;have d2:=Ec h2;have d3:=Ec p7;have d4:=IE p1;have d5:=IE p2;have d6:=Lf (BF p3).2;have d7:=(BF p3).1;have d8:=Lf hk;rw[Ho]at d6;rw[PR];simp only[List.length_append,Fj,List.length_cons,List.length_nil];omega
theorem Mo{d:ByteArray}(h:d.size<=40):(Fl d).length<=50:=by
 unfold Fl;split
 ·simp
 ·rw[GU];have:d.data.toList.length=d.size:=Array.length_toList;simp only[List.length_append,Hz,List.length_cons,List.length_nil];omega
theorem LH{f:Nat->ByteArray}(h:∀i,i<n->(f i).size<=40):(Ek f n).length<=50*n:=by
 induction n with
 |zero=>simp[Ek]
 |succ n ih=>
  have h1:=ih (fun i hi=>h i (by omega));have h2:=h n (by omega);have:(f n).data.toList.length=(f n).size:=Array.length_toList;rw[IX,List.length_append,GU];simp only[List.length_append,En,List.length_cons,List.length_nil];omega
theorem Jw(h:AW k=true)(hi:i<k.on):small (k.O i).id:=by
 have hp:=h;simp only[AW,Bool.and_eq_true]at hp;obtain⟨⟨⟨⟨ht,ho⟩,hn⟩,_⟩,_⟩:=hp;by_cases h0:i=0
 ·subst h0;rw[(Cu ho).1];exact⟨by omega,by omega⟩
 ·have ha:=Gc hn (i-1) (by omega);have e:i-1+1=i:=by omega
  simp only[e]at ha;have hpos:=Eo ho i hi;cases hf:Bv (fun j=>(k.T j).id) k.tn ((k.O i).id/1000)with
  |none=>rw[Lo ht hf]at ha;cases ha
  |some t=>
   rw[Ju ht hf]at ha;obtain⟨t1,t2⟩:=AZ hf;have t3:=(Cx ht).2.2 t t1;simp only[Dw,Bool.and_eq_true]at t3;obtain⟨s1,s2,_⟩:=IL t3.1;have a1:=Cv.1 ha;have t2':(k.T t).id=(k.O i).id/1000:=t2;have hid:(k.T t).id<=9:=by
    have:=t3.1;simp only[Cj,Fa,Bool.and_eq_true]at this;exact(Cv.1 this.1.1.1.1).2
   exact⟨by omega,by omega⟩
theorem MH(h:AW k=true)(hi:i<k.on):small (k.O i).up:=by
 by_cases h0:i=0
 ·subst h0;rw[(Cu (Jt h)).2.2];exact⟨by omega,by omega⟩
 ·obtain⟨u,hu⟩:=aD h hi h0;obtain⟨u1,u2⟩:=AZ hu;have u2':(k.O u).id=(k.O i).up:=u2;rw[<-u2'];exact Jw h u1
theorem Ik(h:AW k=true)(hi:i<k.tn):Cj (k.T i)=true:=by
 simp only[AW,Bool.and_eq_true]at h;have:=(Cx h.1.1.1.1).2.2 i hi;simp only[Dw,Bool.and_eq_true]at this;exact this.1
theorem Kj(h:AW k=true)(hi:i<k.on):Bz (k.O i)=true:=by
 have:=(BJ (Jt h)).2.2.1 i hi;simp only[Ff,Bool.and_eq_true]at this;exact this.1
theorem Mf(h:AW k=true):1<=k.tn/\k.tn<=9/\k.on<=271:=by
 have h2:=(BJ (Jt h)).2.1;simp only[AW,Bool.and_eq_true]at h;have h1:=Cx h.1.1.1.1;exact⟨h1.1,h1.2.1,h2⟩
theorem IY{T:Nat->Af}(h:∀i,i<n->Cj (T i)=true):(CI T n).length<=1000*n:=by
 induction n with
 |zero=>simp[CI]
 |succ n ih=>
  have h1:=ih (fun i hi=>h i (by omega));have h2:=TG (h n (by omega));rw[Jk,List.length_append];omega
theorem ZF(h:Bz o=true)(h1:small o.id)(h2:small o.up)(hk:∀x∈ks,small x)(hn:ks.length<=271):(objT o ks).length<=4000:=by
 obtain⟨_,_,_,p4,p5,p6,_⟩:=Hn h;have d1:=Oe h h1 h2 hk hn;have d2:=Mo p4;have d3:=LH p6;unfold objT;simp only[List.length_append];omega
theorem Rs(h:AW k=true)(hn:n<=k.on):(Dj k.O n).length<=4000*n:=by
 induction n with
 |zero=>simp[Dj]
 |succ n ih=>
  have h1:=ih (by omega);have h2:=ZF (ks:=[]) (Kj h (i:=n) (by omega)) (Jw h (by omega)) (MH h (by omega)) (fun x hx=>by cases hx) (by simp);rw[Jq,List.length_append];omega
def AJ.wfs(k:AJ):Prop:=∀i,i<k.on->(Lit.int .i64 (k.O i).id).wf=true/\(Lit.int .i64 (k.O i).up).wf=true
theorem AJ.same.wfs{k l:AJ}(h:k.same l)(hw:k.wfs):l.wfs:=fun i hi=>by
 obtain⟨h1,h2,h3,h4⟩:=h;rw[h3]at hi;rw[(h4 i hi).1,(h4 i hi).2.2.1];exact hw i hi
theorem AJ.row.below{w w':World}{k:AJ}(h:k.row w)(hb:Below w w w'):k.row w':=⟨h.1.below hb,h.2.below hb⟩
def AJ.cells(k:AJ):Array Value:=#[.slice k.ta k.tn k.tk,.slice k.oa k.on k.ok]
theorem Cz(a:Array UInt8):(ByteArray.mk a).size=a.size:=rfl
theorem LY{a b:ByteArray}(h:a=b):Ending.returned (.string a)= .returned (.string b):=by rw[h]
theorem Qv(x:Int)(w:World)(h:small x):Calls prog 20 #[.int .i64 x] w fun e w'=>e= .returned (.string ⟨(dc x).toArray⟩)/\Below w w w':=
 Jr x w h.1 (by have:=h.2;omega)
theorem WA(b:Int)(c:AH)(w:World)(hc:c.at w)(h:AO b c.n c.f c.g=true):Calls prog 21 #[.agg #[.int .i64 b,c.val]] w fun e w'=>e= .returned (.string ⟨(lb b c).toArray⟩)/\Below w w w':=by
 obtain⟨h1,h2,h3⟩:=Qz h;exact Oo b c.a c.n c.k c.f c.g w h2 hc.2 ⟨h1.1,by have:=h1.2;omega⟩ (fun i hi=>⟨(h3 i hi).1.1,by have:=(h3 i hi).1.2;omega⟩) (fun i hi=>⟨(h3 i hi).2.1,by have:=(h3 i hi).2.2;omega⟩)
theorem NM(c:AU)(w:World)(hc:c.at w)(hs:∀i,i<c.n->small (c.h i))(hn:c.n<=1000):
 Calls prog 22 #[c.val] w fun e w'=>e= .returned (.string ⟨(bl (AF c)).toArray⟩)/\Below w w w':=by
 obtain⟨a,n,cap,h⟩:=c;simp only at hs hn;have HC:=hid hc.2;simp only at HC;unfold AU.val AF;simp only;have HS:=hid hs;clear hc hs;go_enter func22,ntmps22
 go_wp2;go_loopw [3,4] (fun s i wr=>∃q:Nat,q<=n/\i= .int .i64 q/\s= .string ⟨(bl ((List.range q).map h)).toArray⟩/\Below w w wr) (fun _ i _=>n-(intOf i).toNat)
 case atStart=>exact⟨0,Nat.zero_le _,rfl,rfl,Below.refl _ _⟩
 case round=>
  obtain⟨q,hq,rfl,rfl,hB⟩:=hrel;by_cases hlt:q<n
  ·obtain⟨b,off,rfl,hbl,hcc⟩:=HC.out (by omega);have c1:=(hB.cell (p:=⟨b,off+q,none⟩) hbl).trans (hcc q hlt);have i1:(q:Int)<(n:Int):=(by omega);have D:=hid (Qv (h q) wr (HS q hlt));have EX:Hid ((⟨(bl ((List.range (q+1)).map h)).toArray⟩:ByteArray)=⟨(bl ((List.range q).map h)).toArray⟩++ByteArray.mk #[32]++⟨(dc (h q)).toArray⟩):=hid (by
    rw[List.range_succ,List.map_append,List.map_cons,List.map_nil,aR];have e1:ByteArray.mk #[32]=⟨[32].toArray⟩:=rfl;rw[e1,DG,DG];simp)
   have l1:=Lf (ns:=(List.range q).map h) (fun x hx=>by obtain⟨i,hi,rfl⟩:=List.mem_map.1 hx;exact HS.out i (by have:=List.mem_range.1 hi;omega));have l2:=Ec (HS q hlt);have s1:(⟨(bl ((List.range q).map h)).toArray⟩:ByteArray).size<=100000:=(by rw[Cz,List.size_toArray];simp at l1;omega);have s2:(⟨(dc (h q)).toArray⟩:ByteArray).size<=4:=(by rw[Cz,List.size_toArray];exact l2);clear hcc l1 l2;generalize (⟨(bl ((List.range q).map h)).toArray⟩:ByteArray)=S at *;generalize (⟨(dc (h q)).toArray⟩:ByteArray)=D1 at *;have lt0:(ByteArray.mk #[32]).size=1:=rfl;have r1:¬9223372036854775807<S.size+(ByteArray.mk #[32]).size:=(by omega);have r2:¬9223372036854775807<(S++ByteArray.mk #[32]).size+D1.size:=(by rw[ByteArray.size_append];omega);clear lt0;go_wp2_with fail
   refine D.out.mono ?_;rintro e w2 ⟨rfl,b2⟩;have B2:=Ac hB b2;clear b2 D c1;go_wp2;exact⟨⟨q+1,by omega,by go_num,by rw[EX.out],B2⟩,by simp[intOf];omega⟩
  ·have i1:¬(q:Int)<(n:Int):=(by omega);obtain rfl:q=n:=by omega
   go_wp2;go_ret;exact⟨rfl,hB⟩
theorem Ai.sevenF{W:World}{P t:Nat}{x0 x1 x2 x3 x4 x5 x6:Value}(h:Ai W P (.cells #[x0,x1,x2,x3,x4,x5,x6] t)):W.cell? ⟨P,0,none⟩=some x0/\W.cell? ⟨P,1,none⟩=some x1/\W.cell? ⟨P,2,none⟩=some x2/\W.cell? ⟨P,3,none⟩=some x3/\W.cell? ⟨P,4,none⟩=some x4/\W.cell? ⟨P,5,none⟩=some x5/\W.cell? ⟨P,6,none⟩=some x6:=by
 unfold Ai at h;simp[World.cell?,h]
end Go.Proofs.YtblapfnglojgjaaGreatDoor
