import Derived.Test.YtmikapeeflcbfaaGreatDoorZ17
import Derived.Test.YtmikapeeflcbfaaGreatDoorZ20
import Derived.Test.YtmikapeeflcbfaaGreatDoorNU1
import Derived.Test.YtmikapeeflcbfaaGreatDoorZ6
import Derived.Test.YtmikapeeflcbfaaGreatDoorZ13
import Derived.Test.YtmikapeeflcbfaaGreatDoorZ1
import Derived.Test.YtmikapeeflcbfaaGreatDoorZ0
set_option maxRecDepth 100000
set_option maxHeartbeats 16000000
namespace Go.Proofs.YtmikapeeflcbfaaGreatDoor
open Go Go.RowKit Go.Deep Go.Maps Go.BigFrame Go.Shelf Go.Proofs.Tryz
def Ik(l:List Int)(i:Nat):ByteArray:=⟨(CY (AL l i).toNat).toArray⟩
theorem VM(sep:List UInt8)(r:List (List UInt8))(x:List UInt8):Lib.joinTail sep (r++[x])=Lib.joinTail sep r++(sep++x):=by simp[Lib.joinTail]
theorem Wh{r:List (List UInt8)}(h:r≠[])(x sep:List UInt8):Lib.join (r++[x]) sep=Lib.join r sep++sep++x:=by
 cases r with
 |nil=>exact absurd rfl h
 |cons y r=>rw[List.cons_append,Lib.join_cons,Lib.join_cons,VM];simp
theorem SF(l:List Int):∀n,(Pm (AL l) n).data.toList=Lib.join (((List.range n).map (Ik l)).map (·.data.toList)) [32]
 |0=>rfl
 |n+1=>by
  have ih:=SF l n;rw[List.range_succ,List.map_append,List.map_append];by_cases h:0<n
  ·rw[show([n].map (Ik l)).map (·.data.toList)=[CY (AL l n).toNat] from by simp[Ik]];rw[Wh (by simp;omega),<-ih];simp[Pm,h]
  ·have e:n=0:=(by omega);subst e;simp[Pm,Ik,Lib.join,List.intercalate]
theorem own_below{w w':World}{B e size n:Nat}{v:Value}{xs:List Value}(h:w.ownsRow B e size v n xs)(hb:Below w w w'):w'.ownsRow B e size v n xs:=by
 refine⟨h.1,?_⟩;rcases h.2 with h2|⟨g,cap,cur,hv,h1,h2,h3,h4,h5,h6⟩
 ·exact .inl h2
 ·refine .inr ⟨g,cap,cur,hv,h1,?_,h3,h4,h5,h6⟩;rw[hb.block g (by rcases Nat.lt_or_ge g w with h|h;exact h;simp[Array.getElem?_eq_none h]at h2)];exact h2
theorem Xp{x:Int}(h:x.toNat<=1000000):(⟨(CY x.toNat).toArray⟩:ByteArray).size<=1000001:=by
 have h1:=Js x.toNat;show(CY x.toNat).toArray.size<=_;simp;omega
theorem VC(a:Option Addr)(k:Nat)(x:Value)(w:World):Calls prog 168 #[.slice a 0 k,x] w fun e w'=>e= .returned (.string ⟨#[]⟩)/\Below w w w':=by
 go_enter func168,ntmps168
 go_wp2;go_ret;exact⟨rfl,Below.refl _ _⟩
theorem WJ(w:World)(B P:Nat)(s:Ak)(g ca q co:Nat)(lt:List Ac)(lo:List Ab)(t c C:Nat)(nb:Nat->Nat)(kv:Nat->Value)(K:Nat->List Int)(h:DX w B P s g ca q co lt lo t (.map (some c)))(hN:Dj w C c lo.length (fun i=>(Aa lo i).id) q 0 nb kv K)(hB:B<=w.heap.size)(u:Nat)(hu:u<lo.length)(O:Ab)(hO:O=lo[u])(hd:∀x∈lo,x.data.size<=maxLen)(hf:Gw lo O.id=some u)(hi:(Lit.int .i64 O.id).wf=true)(KL:List Int)(hK:K u=KL)(hn:KL.length<=1000)(hx:∀x∈KL,0<=x/\x<=1000000)(tab:P8 w):
 Calls prog 151 #[.pointer (some ⟨P,0,none⟩),.agg #[.pointer (some ⟨q,u*10,none⟩)]] w fun e w'=>e= .returned (.string (Pm (AL KL) KL.length))/\DX w' B P s g ca q co lt lo t (.map (some c))/\Below B w w':=by
 obtain⟨CO,ql⟩:=h.st.jF hu hd;rw[<-hO]at CO;have n2:Nw (w.alloc (.cells #[.pointer (some ⟨q,u*10,none⟩)] 207)):=⟨⟩;have b0:Below w w n2:=(Below.refl _ w).alloc (Nat.le_refl _) _;have c0:(n2:World).cell? ⟨w,0,none⟩=some (.pointer (some ⟨q,u*10,none⟩)):=by go_simp
 have ow:=hN.own u hu;rw[hK]at ow;obtain⟨ka,kc,ekv⟩:=Ax.form ow;have ND:=hN.below b0.drew;have bk:=ND.blk u hu;rw[Nat.zero_add,ekv]at bk;have LK:=ND.map.look hi;rw[show Bd (fun i=>(Aa lo i).id) lo.length O.id=some u from hf]at LK;simp only[Option.map_some]at LK;obtain⟨n0,n1⟩:=bk.two;obtain⟨_,_,_,_,c13⟩:=(h.wk.below b0.drew).work;have z0:(n2:World).drew.cell? ⟨w,0,none⟩=some (.pointer (some ⟨q,u*10,none⟩)):=c0;have z1:(n2:World).drew.cell? ⟨q,u*10,none⟩=some (.int .i64 O.id):=(CO.below ql b0.drew).c0;have HW:=hid h;have OW:Hid (Ax w C (.slice ka KL.length kc) KL):=hid (by rw[<-ekv];exact ow);have HX:=hid hx;have TB:=hid tab;have B0:=hid b0.drew;clear h hN hO CO ow ekv ND hK hx tab hf c0 b0 bk hd;go_enter func151,ntmps151
 go_upto_region 2 with fail
 go_cut[21,22,23] from 8 (fun x y z wc=>x= .slice ka KL.length kc/\y= .int .i64 KL.length/\z= .int .i64 0/\wc=(n2:World).drew)
 case first=>
  go_region_law fail
  all_goals(
   go_wp2_with fail
   go_meet;case rel=>exact⟨rfl,rfl,rfl,rfl⟩)
 case rest=>
  obtain⟨rfl,rfl,rfl,rfl⟩:=hcut;clear n0 n1 LK c13 z0 z1;go_wp2;go_loopw [5,23] (fun v i wr=>∃(j:Nat) (a:Option Addr) (cc:Nat),j<=KL.length/\i= .int .i64 j/\v= .slice a j cc/\Hid (Ev wr w (.slice a j cc) j (Ik KL))/\Hid (Below w w wr)) (fun _ i _=>KL.length-(intOf i).toNat)
  case atStart=>exact⟨0,none,0,Nat.zero_le _,rfl,rfl,hid (World.ownsRow_nil _ _ _ _),B0⟩
  case round=>
   obtain⟨j,a,cc,hj,rfl,rfl,OS,BW⟩:=hrel;by_cases hlt:j<KL.length
   ·have i1:(j:Int)<(KL.length:Int):=(by omega);have i0:(0:Int)<=(j:Int):=(by omega);obtain⟨kb,ko,ea,kl,kcc⟩:=(Ax.lies OW).ints (by omega);have kcell:=(BW.out.cell (p:=⟨kb,ko+j,none⟩) kl).trans (kcc j hlt);rw[ea];have xm:AL KL j∈KL:=(by unfold AL;rw[List.getD_eq_getElem?_getD,List.getElem?_eq_getElem hlt];exact List.getElem_mem hlt);have xb:=HX.out _ xm;have DC:=hid (If (AL KL j) wr xb.1 (by omega) (TB.out.below BW));have SZ:Hid ((Ik KL j).size<=maxLen):=hid (by have:=Xp (x:=AL KL j) (by omega);show(⟨(CY (AL KL j).toNat).toArray⟩:ByteArray).size<=maxLen;unfold maxLen;omega);clear kcc xm;go_wp2_with fail
    refine DC.out.mono ?_;rintro e w1 ⟨rfl,b1⟩;have O1:=hid (own_below OS b1);have B1:=hid (Ae BW b1);have BA:=(Below.refl _ w1).alloc (Nat.le_refl _) (.cells #[.string ⟨(CY (AL KL j).toNat).toArray⟩] 9);have O2:=hid (own_below O1 BA);have B2:=hid (Ae B1 BA);have L2:=hid (Ie w1 ⟨(CY (AL KL j).toNat).toArray⟩);have s2:=B2.out.size;clear b1 BA DC kcell;go_wp2_with(refine By underlying80 Tryz.info9 rfl (by omega) _ rfl _ _ rfl w (.slice a j cc) j (Ip j (Ik KL)) rfl O2 (some ⟨w1,0,none⟩) 1 1 [.string ⟨(CY (AL KL j).toNat).toArray⟩] rfl rfl L2 (fun u hu=>by simp at hu;subst hu;rfl) (by omega) (by omega) s2 ?_;intro a3 c3 w3 o3 g3)
    have O3:Hid (Ev w3 w (.slice a3 (j+1) c3) (j+1) (Ik KL)):=hid (by
     have e:Ip (j+1) (Ik KL)=Ip j (Ik KL)++[.string ⟨(CY (AL KL j).toNat).toArray⟩]:=(by unfold Ip;rw[List.range_succ];simp[Ik]);rw[<-e]at o3;exact o3)
    have B3:Hid (Below w w w3):=hid (B2.out.trans (below_grown g3 B2.out.size (fun j e=>(World.ownsRow.lt O2 j e).1)));clear o3 g3;go_roundw;case rel=>exact⟨j+1,a3,c3,by omega,by go_num,rfl,O3,B3⟩
    case measure=>simp[intOf];omega
   ·have ej:j=KL.length:=(by omega);have i1:¬(j:Int)<(KL.length:Int):=(by omega);subst ej;by_cases h0:0<KL.length
    ·obtain⟨gb,mm,F,ea,hb1,hb2,hr⟩:=Dp OS h0;subst ea;obtain⟨b',off,e',hlt',hcc⟩:=Bj.own OS h0;cases e';have lw:=hr.lt;have JS:((Pm (AL KL) KL.length).size)<=KL.length*1000002:=QH (fun i hi=>by
      have hi':=HX.out (AL KL i) (by unfold AL;rw[List.getD_eq_getElem?_getD,List.getElem?_eq_getElem hi];exact List.getElem_mem hi);omega)
     have JJ:=hid (SF KL KL.length);have JN:Hid (Calls prog 168 #[.slice (some ⟨gb,0,none⟩) KL.length cc,.string ⟨#[32]⟩] wr fun e w'=>e= .returned (.string (Pm (AL KL) KL.length))/\Below wr wr w'):=hid (by
      have el:((List.range KL.length).map (Ik KL)).length=KL.length:=(by simp);have jl:(Lib.join (((List.range KL.length).map (Ik KL)).map (·.data.toList)) [32]).length=(Pm (AL KL) KL.length).size:=by
       rw[<-JJ.out];exact Array.length_toList
      have:=Tryz.strings_Join gb 0 cc ((List.range KL.length).map (Ik KL)) ⟨#[32]⟩ wr (fun i x hx'=>hcc i (.string x) (by
       have hil:i<KL.length:=by
        have:=(List.getElem?_eq_some_iff.1 hx').1;simpa using this
       simp[hil]at hx';subst hx';simp[Ip,hil])) lw (by rw[el];omega) (by rw[el];exact(Da OS).1) (by
        show(Lib.join (((List.range KL.length).map (Ik KL)).map (·.data.toList)) [32]).length<=_;rw[jl];omega)
      rw[el]at this;refine this.mono ?_;rintro e w' ⟨rfl,hb⟩;refine⟨?_,hb⟩;have e2:(⟨(Lib.join (((List.range KL.length).map (Ik KL)).map (·.data.toList)) (⟨#[32]⟩:ByteArray).data.toList).toArray⟩:ByteArray)=Pm (AL KL) KL.length:=by
       have:(Lib.join (((List.range KL.length).map (Ik KL)).map (·.data.toList)) (⟨#[32]⟩:ByteArray).data.toList)=(Pm (AL KL) KL.length).data.toList:=JJ.out.symm;rw[this]
      rw[e2])
     clear hcc hr lw JS;go_wp2_with fail
     refine JN.out.mono ?_;rintro e w1 ⟨rfl,b1⟩;have B1:=hid (Ae BW b1);clear b1;go_wp2;go_ret;exact⟨rfl,HW.out.below B1,B1.out.mono hB⟩
    ·have e0:KL=[]:=List.eq_nil_of_length_eq_zero (by omega);subst e0;have SH:=OS.out.2;have en:a=none∨∃gb,a=some ⟨gb,0,none⟩:=by
      rcases SH with⟨hv,_⟩|⟨gb,cap,cur,hv,_⟩
      ·left;cases hv;rfl
      ·right;cases hv;exact⟨gb,rfl⟩
     clear SH;have JN:=hid (VC a cc (.string ⟨#[32]⟩) wr);go_wp2_with fail
     refine JN.out.mono ?_;rintro e w1 ⟨rfl,b1⟩;have B1:=hid (Ae BW b1);clear b1;go_wp2;go_ret;exact⟨rfl,HW.out.below B1,B1.out.mono hB⟩
theorem Ug(k:Int)(w:World):Calls prog 148 #[.int .i64 k] w fun e w'=>e= .returned (.bool (k==6||k==9||k==10))/\Below w w w':=by
 by_cases h0:k=6
 ·subst h0;go_enter func148,ntmps148
  go_wp2;go_ret;exact⟨by simp,Below.refl _ _⟩
 ·have b0:(k==6)=false:=by simpa using h0
  by_cases h1:k=9
  ·subst h1;go_enter func148,ntmps148
   go_wp2;go_ret;exact⟨by simp,Below.refl _ _⟩
  ·have b1:(k==9)=false:=(by simpa using h1);by_cases h2:k=10
   ·subst h2;go_enter func148,ntmps148
    go_wp2;go_ret;exact⟨by simp,Below.refl _ _⟩
   ·have b2:(k==10)=false:=(by simpa using h2);go_enter func148,ntmps148
    go_wp2;go_ret;exact⟨by simp[h0,h1,h2],Below.refl _ _⟩
theorem J5(v:Value)(k:Int)(w:World):Calls prog 262 #[.agg #[v],.int .i64 k] w fun e w'=>e= .returned (.bool (k==6||k==7||k==8))/\Below w w w':=by
 by_cases h0:k=6
 ·subst h0;go_enter func262,ntmps262
  go_wp2;go_ret;exact⟨by simp,(Below.refl _ w).alloc (Nat.le_refl _) _⟩
 ·have b0:(k==6)=false:=by simpa using h0
  by_cases h1:k=7
  ·subst h1;go_enter func262,ntmps262
   go_wp2;go_ret;exact⟨by simp,(Below.refl _ w).alloc (Nat.le_refl _) _⟩
  ·have b1:(k==7)=false:=(by simpa using h1);by_cases h2:k=8
   ·subst h2;go_enter func262,ntmps262
    go_wp2;go_ret;exact⟨by simp,(Below.refl _ w).alloc (Nat.le_refl _) _⟩
   ·have b2:(k==8)=false:=(by simpa using h2);go_enter func262,ntmps262
    go_wp2;go_ret;exact⟨by simp[h0,h1,h2],(Below.refl _ w).alloc (Nat.le_refl _) _⟩
theorem LR(v:Value)(k:Int)(w:World):Calls prog 263 #[.agg #[v],.int .i64 k] w fun e w'=>e= .returned (.bool (k==9||k==10))/\Below w w w':=by
 by_cases h0:k=9
 ·subst h0;go_enter func263,ntmps263
  go_wp2;go_ret;exact⟨by simp,(Below.refl _ w).alloc (Nat.le_refl _) _⟩
 ·have b0:(k==9)=false:=by simpa using h0
  by_cases h1:k=10
  ·subst h1;go_enter func263,ntmps263
   go_wp2;go_ret;exact⟨by simp,(Below.refl _ w).alloc (Nat.le_refl _) _⟩
  ·have b1:(k==10)=false:=(by simpa using h1);go_enter func263,ntmps263
   go_wp2;go_ret;exact⟨by simp[h0,h1],(Below.refl _ w).alloc (Nat.le_refl _) _⟩
theorem Ox(v:Value)(k:Int)(w:World):Calls prog 264 #[.agg #[v],.int .i64 k] w fun e w'=>e= .returned (.bool (k==15))/\Below w w w':=by
 by_cases h0:k=15
 ·subst h0;go_enter func264,ntmps264
  go_wp2;go_ret;exact⟨by simp,(Below.refl _ w).alloc (Nat.le_refl _) _⟩
 ·have b0:(k==15)=false:=by simpa using h0
  go_enter func264,ntmps264
  go_wp2;go_ret;exact⟨by simp[h0],(Below.refl _ w).alloc (Nat.le_refl _) _⟩
theorem Ms(v:Value)(k:Int)(w:World):Calls prog 265 #[.agg #[v],.int .i64 k] w fun e w'=>e= .returned (.bool (k==13))/\Below w w w':=by
 by_cases h0:k=13
 ·subst h0;go_enter func265,ntmps265
  go_wp2;go_ret;exact⟨by simp,(Below.refl _ w).alloc (Nat.le_refl _) _⟩
 ·have b0:(k==13)=false:=by simpa using h0
  go_enter func265,ntmps265
  go_wp2;go_ret;exact⟨by simp[h0],(Below.refl _ w).alloc (Nat.le_refl _) _⟩
def AY(k:Int):Int:=if k=2 then 1 else if k=3 then 2 else if k=4 then 3 else 4
theorem Gj(k:Int)(w:World):Calls prog 134 #[.int .i64 k] w fun e w'=>e= .returned (.int .i64 (AY k))/\w'=w:=by
 by_cases h0:k=2
 ·subst h0;go_enter func134,ntmps134
  go_wp2;go_ret;exact⟨by simp[AY],rfl⟩
 ·have b0:(k==2)=false:=by simpa using h0
  by_cases h1:k=3
  ·subst h1;go_enter func134,ntmps134
   go_wp2;go_ret;exact⟨by simp[AY],rfl⟩
  ·have b1:(k==3)=false:=(by simpa using h1);by_cases h2:k=4
   ·subst h2;go_enter func134,ntmps134
    go_wp2;go_ret;exact⟨by simp[AY],rfl⟩
   ·have b2:(k==4)=false:=(by simpa using h2);go_enter func134,ntmps134
    go_wp2;go_ret;exact⟨by simp[AY,h0,h1,h2],rfl⟩
theorem Ll(d:Array Int)(hs:∀i j,i<=j->j<d.size->d[i]!<=d[j]!):∀m,m<=d.size->(Lib.compactUpTo d m).Pairwise (· <·)/\∀x,x∈Lib.compactUpTo d m↔∃i,i<m/\x=d[i]!
 |0,_=>⟨by simp[Lib.compactUpTo],by simp[Lib.compactUpTo]⟩
 |m+1,hm=>by
  obtain⟨h1,h2⟩:=Ll d hs m (by omega);rw[Lib.compactUpTo_succ];by_cases h0:m=0
  ·subst h0;simp[Lib.compactUpTo,Lib.keeps]
  ·by_cases he:d[m]! =d[m-1]!
   ·rw[Lib.keeps_neg (by omega) he];simp only[Bool.false_eq_true,if_false,List.append_nil];refine⟨h1,fun x=>?_⟩;rw[h2];constructor
    ·rintro⟨i,hi,e⟩;exact⟨i,by omega,e⟩
    ·rintro⟨i,hi,e⟩;by_cases e1:i=m
     ·subst e1;exact⟨i-1,by omega,by rw[e,he]⟩
     ·exact⟨i,by omega,e⟩
   ·rw[Lib.keeps_pos he];simp only[if_true];refine⟨?_,fun x=>?_⟩
    ·rw[List.pairwise_append];refine⟨h1,by simp,fun a ha b hb=>?_⟩;obtain⟨i,hi,rfl⟩:=(h2 a).1 ha;simp at hb;subst hb;have a1:=hs i (m-1) (by omega) (by omega);have a2:=hs (m-1) m (by omega) (by omega);omega
    ·rw[List.mem_append,h2];simp only[List.mem_singleton];constructor
     ·rintro(⟨i,hi,e⟩|e)
      ·exact⟨i,by omega,e⟩
      ·exact⟨m,by omega,e⟩
     ·rintro⟨i,hi,e⟩;by_cases e1:i=m
      ·subst e1;exact .inr e
      ·exact .inl ⟨i,by omega,e⟩
theorem Xs(l:List Int):(Ce l).Pairwise (· <=·):=by
 have:=List.pairwise_mergeSort (le:=fun(x y:Int)=>decide (x<=y)) (fun a b c h1 h2=>by simp at *;omega) (fun a b=>by simp;omega) l;exact this.imp (fun h=>by simpa using h)
theorem P9(l:List Int):(Lib.compact (Ce l)).Pairwise (· <·)/\∀x,x∈Lib.compact (Ce l)↔x∈l:=by
 have h:=Ll (Ce l).toArray (fun i j hij hj=>by
  simp only[List.size_toArray]at hj;by_cases e:i=j
  ·subst e;exact Int.le_refl _
  ·have:=List.pairwise_iff_getElem.1 (Xs l) i j (by omega) hj (by omega);simpa[getElem!_pos,hj,show i<(Ce l).length by omega]using this) (Ce l).length (by simp)
 refine⟨h.1,fun x=>?_⟩;unfold Lib.compact;rw[h.2,<-Kr (l:=l)];constructor
 ·rintro⟨i,hi,rfl⟩;have:(Ce l).toArray[i]! =(Ce l)[i]:=by simp[getElem!_pos,hi]
  rw[this];exact List.getElem_mem hi
 ·intro hx;obtain⟨i,hi,rfl⟩:=List.getElem_of_mem hx;exact⟨i,hi,by simp[getElem!_pos,hi]⟩
theorem Li{L:List Int}{h:Nat->Int}(hL:L.Pairwise (· <·)):∀q,(Dk L h q).Pairwise (· <·)
 |0=>hL
 |q+1=>Iy (Li hL q)
theorem OX{L:List Int}{h:Nat->Int}(x:Int):∀q,x∈Dk L h q↔x∈L∨∃i,i<q/\x=h i
 |0=>by simp[Dk]
 |q+1=>by
  simp only[Dk];rw[UK,OX x q];constructor
  ·rintro((a|⟨i,hi,e⟩)|e)
   ·exact .inl a
   ·exact .inr ⟨i,by omega,e⟩
   ·exact .inr ⟨q,by omega,e⟩
  ·rintro(a|⟨i,hi,e⟩)
   ·exact .inl (.inl a)
   ·by_cases e1:i=q
    ·subst e1;exact .inr e
    ·exact .inl (.inr ⟨i,by omega,e⟩)
theorem Lj{L:List Int}(hL:L.Pairwise (· <·))(h:Nat->Int)(n:Nat):Lib.compact (Ce (L++(List.range n).map h))=Dk L h n:=by
 obtain⟨a,b⟩:=P9 (L++(List.range n).map h);refine Nh a (Li hL n) (fun x=>?_);rw[b,OX,List.mem_append,List.mem_map];simp only[List.mem_range];constructor
 ·rintro(c|⟨i,hi,e⟩)
  ·exact .inl c
  ·exact .inr ⟨i,hi,e.symm⟩
 ·rintro(c|⟨i,hi,e⟩)
  ·exact .inl c
  ·exact .inr ⟨i,hi,e.symm⟩
theorem Ql{L:List Int}(hL:L.Pairwise (· <·))(x:Int):Lib.compact (Ce (L++[x]))=Dh L x:=by
 have:=Lj hL (fun _=>x) 1;simpa[Dk]using this
theorem Mi(base:Int)(a:Option Addr)(n cap:Nat)(w:World)(hn:n<=maxLen):
 Calls prog 83 #[.agg #[.int .i64 base,.slice a n cap]] w fun e w'=>e= .returned (.bool (Dc base n))/\Below w w w':=by
 unfold maxLen at hn;have hb0:=(Below.refl _ w).alloc (Nat.le_refl _) (.cells #[.int .i64 base,.slice a n cap] 42);cases t:(base==0)with
 |true=>
  go_enter func83,ntmps83
  go_wp2;go_ret;refine⟨Ag ?_,hb0⟩;unfold Dc;rw[t,Bool.true_and];by_cases e:n=0
  ·subst e;rfl
  ·have e1:(n==0)=false:=(by simpa using e);rw[e1];simp;omega
 |false=>
  go_enter func83,ntmps83
  go_wp2;go_ret;exact⟨Ag (by simp[Dc,t]),hb0⟩
def Jk(d:ByteArray):Bool:=d.toList.isEmpty
def Eg(ok ui ut uc ud ul ue:Bool)(th kind id to' cat:Int)(d:ByteArray)(lo zl co zc:Bool):Bool:=
 ok&&Dv th 1 9&&lo&&(ul||zl)&&co&&(ue||zc)&&Bp d 40&&(ud||Jk d)&&Lr id ui&&Lr to' ut&&Mr kind cat uc
def GU(th kind id to' cat:Int)(d:ByteArray)(bl:Int)(nl:Nat)(fl gl:Nat->Int)(bc:Int)(nc:Nat)(fc gc:Nat->Int):Bool:=
 Eg (ZD kind) (Zr kind) (aE kind) (Rb kind) (PM kind) (Ke kind) (Ii kind) th kind id to' cat d (AX bl nl fl gl) (Dc bl nl) (AX bc nc fc gc) (Dc bc nc)
def okL(lt:List Ac)(lo:List Ab):Bool:=BI (DW none 0 none 0 lt lo)
theorem Ep{lt:List Ac}{i:Nat}(h:i<lt.length):As lt i=lt[i]:=by simp[As,h]
theorem AM{lo:List Ab}{i:Nat}(h:i<lo.length):Aa lo i=lo[i]:=by simp[Aa,h]
theorem Bo{b:Int}{c:Al}(h:AX b c.n c.f c.g=true):El c/\c.n<=12:=by
 unfold AX at h;simp only[Bool.and_eq_true,decide_eq_true_eq,List.all_eq_true,List.mem_range]at h;obtain⟨⟨_,hn⟩,ha⟩:=h;refine⟨?_,hn⟩;intro j hj;induction j with
 |zero=>intro i hi;omega
 |succ j ih=>
  intro i hi;have h1:=ha (j+1) hj;unfold CL at h1;simp only[Bool.and_eq_true,Bool.or_eq_true,decide_eq_true_eq,beq_iff_eq]at h1;have h2:c.f j<c.f (j+1):=by
   rcases h1.2 with e|e
   ·omega
   ·simpa using e
  by_cases e:i=j
  ·subst e;exact h2
  ·have:=ih (by omega) i (by omega);omega
structure Mb(x:Ac):Prop where
 id:1<=x.id/\x.id<=9
 l1:AX x.b1 x.c1.n x.c1.f x.c1.g=true
 l2:AX x.b2 x.c2.n x.c2.f x.c2.g=true
 own:BK x.own.n x.own.h=true
 made:0<=x.made/\x.made<=30
theorem Is{x:Ac}:CS x=true↔Mb x:=by
 unfold CS Df;simp only[Bool.and_eq_true,DL];exact⟨fun⟨⟨⟨⟨a,b⟩,c⟩,d⟩,e⟩=>⟨a,b,c,d,e⟩,fun h=>⟨⟨⟨⟨h.id,h.l1⟩,h.l2⟩,h.own⟩,h.made⟩⟩
theorem IX{n:Nat}{h:Nat->Int}(e:BK n h=true):n<=10:=by
 unfold BK at e;simp only[Bool.and_eq_true,decide_eq_true_eq]at e;exact e.1
theorem Mb.small{x:Ac}(h:Mb x):x.small:=⟨by have:=(Bo h.l1).2;omega,by have:=(Bo h.l2).2;omega,by have:=IX h.own;omega⟩
structure Ml(x:Ab):Prop where
 l1:AX x.b1 x.c1.n x.c1.f x.c1.g=true
 l2:AX x.b2 x.c2.n x.c2.f x.c2.g=true
 own:BK x.own.n x.own.h=true
 data:Bp x.data 40=true
 jA:DG x.jA.n x.jA.f=true
 kind:Ha x=true
theorem JU{x:Ab}:Cn x=true↔Ml x:=by
 unfold Cn;simp only[Bool.and_eq_true];exact⟨fun⟨⟨⟨⟨⟨a,b⟩,c⟩,d⟩,e⟩,f⟩=>⟨a,b,c,d,e,f⟩,fun h=>⟨⟨⟨⟨⟨h.l1,h.l2⟩,h.own⟩,h.data⟩,h.jA⟩,h.kind⟩⟩
theorem Gk{d:ByteArray}(h:Bp d 40=true):d.size<=40:=by
 unfold Bp at h;simp only[Bool.and_eq_true,decide_eq_true_eq]at h;omega
section
variable {lt:List Ac}{lo:List Ab} (ok:okL lt lo=true)
include ok
theorem MA:1<=lt.length/\lt.length<=9:=by
 have h:=CF (Bl ok).1;exact⟨h.1,h.2.1⟩
theorem GM:1<=lo.length/\lo.length<=271:=by
 have h:=Cc (Bl ok).2.1;exact⟨h.1,h.2.1⟩
theorem Fy:∀x∈lt,Mb x:=fun x hx=>by
 obtain⟨i,hi,e⟩:=List.mem_iff_getElem.1 hx;have h:=(CF (Bl ok).1).2.2 i hi;unfold DK at h;simp only[Bool.and_eq_true]at h;have e2:(DW none 0 none 0 lt lo).T i=x:=(Ep hi).trans e;rw[e2]at h;exact Is.1 h.1
theorem DU:∀x∈lo,Ml x:=fun x hx=>by
 obtain⟨i,hi,e⟩:=List.mem_iff_getElem.1 hx;have h:=(Cc (Bl ok).2.1).2.2.1 i hi;unfold Fi at h;simp only[Bool.and_eq_true]at h;have e2:(DW none 0 none 0 lt lo).O i=x:=(AM hi).trans e;rw[e2]at h;exact JU.1 h.1
theorem Jp:∀x∈lo,0<=x.id/\x.id<=1000000:=fun x hx=>by
 obtain⟨i,hi,e⟩:=List.mem_iff_getElem.1 hx;have k:=BF.1 ok;have e2:(DW none 0 none 0 lt lo).O i=x:=(AM hi).trans e;by_cases h0:i=0
 ·subst h0;have r:=k.root;rw[e2]at r;unfold E7 at r;simp only[Bool.and_eq_true,beq_iff_eq]at r;omega
 ·have h:=k.num i (by omega) hi;rw[e2]at h;obtain⟨t,h1,h2,h3,h4⟩:=Ew k.thr h;have e3:(DW none 0 none 0 lt lo).T t=lt[t]:=Ep h1;rw[e3]at h2 h4;have f:=Fy ok _ (List.getElem_mem h1);have:=f.id;have:=f.made;omega
theorem Cu:∀x∈lo,x.data.size<=maxLen:=fun x hx=>by
 have:=Gk (DU ok x hx).data;unfold maxLen;omega
theorem Pe:∀x∈lo,x.jA.n<=8/\∀i,i<x.jA.n->Bp (x.jA.f i) 40=true:=fun x hx=>by
 have h:=(DU ok x hx).jA;unfold DG at h;simp only[Bool.and_eq_true,decide_eq_true_eq,List.all_eq_true,List.mem_range]at h;exact⟨by omega,h.2⟩
end
def Ak.ok(s:Ak):Bool:=GU s.th s.kind s.id s.to s.cat s.data s.b1 s.c1.n s.c1.f s.c1.g s.b2 s.c2.n s.c2.f s.c2.g
structure UJ(s:Ak):Prop where
 kind:1<=s.kind/\s.kind<=15
 l1:AX s.b1 s.c1.n s.c1.f s.c1.g=true
 l2:AX s.b2 s.c2.n s.c2.f s.c2.g=true
 data:Bp s.data 40=true
 cat:Mr s.kind s.cat (Rb s.kind)=true
 id:Lr s.id (Zr s.kind)=true
theorem Gl{s:Ak}(h:s.ok=true):UJ s:=by
 unfold Ak.ok GU Eg at h;simp only[Bool.and_eq_true]at h;obtain⟨⟨⟨⟨⟨⟨⟨⟨⟨⟨a,b⟩,c⟩,d⟩,e⟩,f⟩,g⟩,i⟩,j⟩,k⟩,l⟩:=h;refine⟨?_,c,e,g,l,j⟩;unfold ZD at a;simp only[Bool.or_eq_true,beq_iff_eq]at a;omega
end Go.Proofs.YtmikapeeflcbfaaGreatDoor
