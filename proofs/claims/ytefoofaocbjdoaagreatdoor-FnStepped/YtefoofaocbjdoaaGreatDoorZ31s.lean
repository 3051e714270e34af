import Derived.Lib.SliceRun
import Derived.Test.YtefoofaocbjdoaaGreatDoorZ30s
set_option maxRecDepth 100000
set_option maxHeartbeats 16000000
namespace Go.Proofs.YtefoofaocbjdoaaGreatDoor
open Go Go.RowKit Go.Deep Go.Maps Go.BigFrame Go.Shelf Go.Proofs.Tryz
def Jf(l:List Int)(i:Nat):ByteArray:=⟨(CN (AX l i).toNat).toArray⟩
theorem WP(sep:List UInt8)(r:List (List UInt8))(x:List UInt8):Lib.joinTail sep (r++[x])=Lib.joinTail sep r++(sep++x):=by simp[Lib.joinTail]
theorem VD{r:List (List UInt8)}(h:r≠[])(x sep:List UInt8):Lib.join (r++[x]) sep=Lib.join r sep++sep++x:=by
 cases r with
 |nil=>exact absurd rfl h
 |cons y r=>rw[List.cons_append,Lib.join_cons,Lib.join_cons,WP];simp
theorem Sl(l:List Int):∀n,(Qc (AX l) n).data.toList=Lib.join (((List.range n).map (Jf l)).map (·.data.toList)) [32]
 |0=>rfl
 |n+1=>by
  have ih:=Sl l n;rw[List.range_succ,List.map_append,List.map_append];by_cases h:0<n
  ·rw[show([n].map (Jf l)).map (·.data.toList)=[CN (AX l n).toNat] from by simp[Jf]];rw[VD (by simp;omega),<-ih];simp[Qc,h]
  ·have e:n=0:=(by omega);subst e;simp[Qc,Jf,Lib.join,List.intercalate]
theorem own_below{w w':World}{B e size n:Nat}{v:Value}{xs:List Value}(h:w.ownsRow B e size v n xs)(hb:Below w w w'):w'.ownsRow B e size v n xs:=by
 refine⟨h.1,?_⟩;rcases h.2 with h2|⟨g,cap,cur,hv,h1,h2,h3,h4,h5,h6⟩
 ·exact .inl h2
 ·refine .inr ⟨g,cap,cur,hv,h1,?_,h3,h4,h5,h6⟩;rw[hb.block g (by rcases Nat.lt_or_ge g w with h|h;exact h;simp[Array.getElem?_eq_none h]at h2)];exact h2
theorem Xy{x:Int}(h:x.toNat<=1000000):(⟨(CN x.toNat).toArray⟩:ByteArray).size<=1000001:=by
 have h1:=FJ x.toNat;show(CN x.toNat).toArray.size<=_;simp;omega
theorem VN(a:Option Addr)(k:Nat)(x:Value)(w:World):Calls prog 141 #[.slice a 0 k,x] w fun e w'=>e= .returned (.string ⟨#[]⟩)/\Below w w w':=by
 go_enter func141,ntmps141
 go_wp2;go_ret;exact⟨rfl,Below.refl _ _⟩
theorem XL(w:World)(B P:Nat)(s:Al)(g ca q co:Nat)(lt:List Ae)(lo:List Ab)(t c C:Nat)(nb:Nat->Nat)(kv:Nat->Value)(K:Nat->List Int)(h:Ew w B P s g ca q co lt lo t (.map (some c)))(hN:DW w C c lo.length (fun i=>(Aa lo i).id) q 0 nb kv K)(hB:B<=w.heap.size)(u:Nat)(hu:u<lo.length)(O:Ab)(hO:O=lo[u])(hd:∀x∈lo,x.data.size<=maxLen)(hf:Hf lo O.id=some u)(hi:(Lit.int .i64 O.id).wf=true)(KL:List Int)(hK:K u=KL)(hn:KL.length<=1000)(hx:∀x∈KL,0<=x/\x<=1000000)(tab:Rl w):
 Calls prog 126 #[.pointer P,.agg #[.pointer (some ⟨q,u*10,none⟩)]] w fun e w'=>e= .returned (.string (Qc (AX KL) KL.length))/\Ew w' B P s g ca q co lt lo t (.map (some c))/\Below B w w':=by
 obtain⟨CO,ql⟩:=h.st.jF hu hd;rw[<-hO]at CO;have n2:Nw (w.alloc (.cells #[.pointer (some ⟨q,u*10,none⟩)] 181)):=⟨⟩;have b0:Below w w n2:=Be w _;have c0:(n2:World).cell? ⟨w,0,none⟩=some (.pointer (some ⟨q,u*10,none⟩)):=by go_simp
 have ow:=hN.own u hu;rw[hK]at ow;obtain⟨ka,kc,ekv⟩:=Az.form ow;have ND:=hN.below b0.drew;have bk:=ND.blk u hu;rw[Nat.zero_add,ekv]at bk;have LK:=ND.map.look hi;rw[show Bl (fun i=>(Aa lo i).id) lo.length O.id=some u from hf]at LK;simp only[Option.map_some]at LK;obtain⟨n0,n1⟩:=bk.two;obtain⟨_,_,_,_,c13⟩:=(h.wk.below b0.drew).jZ;have z0:(n2:World).drew.cell? ⟨w,0,none⟩=some (.pointer (some ⟨q,u*10,none⟩)):=c0;have z1:(n2:World).drew.cell? ⟨q,u*10,none⟩=some (.int .i64 O.id):=(CO.below ql b0.drew).c0;have HW:=hid h;have OW:Hid (Az w C (.slice ka KL.length kc) KL):=hid (by rw[<-ekv];exact ow);have HX:=hid hx;have TB:=hid tab;have B0:=hid b0.drew;clear h hN hO CO ow ekv ND hK hx tab hf c0 b0 bk hd;go_enter func126,ntmps126
 go_upto_region 2 with fail
 go_cut[21,22,23] from 8 (fun x y z wc=>x= .slice ka KL.length kc/\y= .int .i64 KL.length/\z= .int .i64 0/\wc=(n2:World).drew)
 case first=>
  go_region_law fail
  all_goals(
   go_wp2_with fail
   go_meet;case rel=>exact⟨rfl,rfl,rfl,rfl⟩)
 case rest=>
  obtain⟨rfl,rfl,rfl,rfl⟩:=hcut;clear n0 n1 LK c13 z0 z1;go_wp2;go_loopw [5,23] (fun v i wr=>∃(j:Nat) (a:Option Addr) (cc:Nat),j<=KL.length/\i= .int .i64 j/\v= .slice a j cc/\Hid (FC wr w (.slice a j cc) j (Jf KL))/\Hid (Below w w wr)) (fun _ i _=>KL.length-(intOf i).toNat)
  case atStart=>exact⟨0,none,0,Nat.zero_le _,rfl,rfl,hid (World.ownsRow_nil _ _ _ _),B0⟩
  case round=>
   obtain⟨j,a,cc,hj,rfl,rfl,OS,BW⟩:=hrel;by_cases hlt:j<KL.length
   ·have i1:(j:Int)<(KL.length:Int):=(by omega);have i0:(0:Int)<=(j:Int):=(by omega);obtain⟨kb,ko,ea,kl,kcc⟩:=(Az.lies OW).ints (by omega);have kcell:=(BW.out.cell (p:=⟨kb,ko+j,none⟩) kl).trans (kcc j hlt);rw[ea];have xm:AX KL j∈KL:=(by unfold AX;rw[List.getD_eq_getElem?_getD,List.getElem?_eq_getElem hlt];exact List.getElem_mem hlt);have xb:=HX.out _ xm;have DC:=hid (I7 (AX KL j) wr xb.1 (by omega) (TB.out.below BW));have SZ:Hid ((Jf KL j).size<=maxLen):=hid (by have:=Xy (x:=AX KL j) (by omega);show(⟨(CN (AX KL j).toNat).toArray⟩:ByteArray).size<=maxLen;unfold maxLen;omega);clear kcc xm;go_wp2_with fail
    refine DC.out.mono ?_;rintro e w1 ⟨rfl,b1⟩;have O1:=hid (own_below OS b1);have B1:=hid (Af BW b1);have BA:=Be w1 (.cells #[.string ⟨(CN (AX KL j).toNat).toArray⟩] 9);have O2:=hid (own_below O1 BA);have B2:=hid (Af B1 BA);have L2:=hid (I3 w1 ⟨(CN (AX KL j).toNat).toArray⟩);have s2:=B2.out.size;clear b1 BA DC kcell;go_wp2_with(refine BU underlying61 Tryz.info9 rfl (by omega) _ rfl _ _ rfl w (.slice a j cc) j (Jg j (Jf KL)) rfl O2 (some ⟨w1,0,none⟩) 1 1 [.string ⟨(CN (AX KL j).toNat).toArray⟩] rfl rfl L2 (fun u hu=>by simp at hu;subst hu;rfl) (by omega) (by omega) s2 ?_;intro a3 c3 w3 o3 g3)
    have O3:Hid (FC w3 w (.slice a3 (j+1) c3) (j+1) (Jf KL)):=hid (by
     have e:Jg (j+1) (Jf KL)=Jg j (Jf KL)++[.string ⟨(CN (AX KL j).toNat).toArray⟩]:=(by unfold Jg;rw[List.range_succ];simp[Jf]);rw[<-e]at o3;exact o3)
    have B3:Hid (Below w w w3):=hid (B2.out.trans (below_grown g3 B2.out.size (fun j e=>(World.ownsRow.lt O2 j e).1)));clear o3 g3;go_roundw;case rel=>exact⟨j+1,a3,c3,by omega,by go_num,rfl,O3,B3⟩
    case measure=>simp[intOf];omega
   ·have ej:j=KL.length:=(by omega);have i1:¬(j:Int)<(KL.length:Int):=(by omega);subst ej;by_cases h0:0<KL.length
    ·obtain⟨gb,mm,F,ea,hb1,hb2,hr⟩:=Dt OS h0;subst ea;obtain⟨b',off,e',hlt',hcc⟩:=Bp.own OS h0;cases e';have lw:=hr.lt;have JS:((Qc (AX KL) KL.length).size)<=KL.length*1000002:=QE (fun i hi=>by
      have hi':=HX.out (AX KL i) (by unfold AX;rw[List.getD_eq_getElem?_getD,List.getElem?_eq_getElem hi];exact List.getElem_mem hi);omega)
     have JJ:=hid (Sl KL KL.length);have JN:Hid (Calls prog 141 #[.slice gb KL.length cc,.string ⟨#[32]⟩] wr fun e w'=>e= .returned (.string (Qc (AX KL) KL.length))/\Below wr wr w'):=hid (by
      have el:((List.range KL.length).map (Jf KL)).length=KL.length:=(by simp);have jl:(Lib.join (((List.range KL.length).map (Jf KL)).map (·.data.toList)) [32]).length=(Qc (AX KL) KL.length).size:=by
       rw[<-JJ.out];exact Array.length_toList
      have:=Tryz.strings_Join gb 0 cc ((List.range KL.length).map (Jf KL)) ⟨#[32]⟩ wr (fun i x hx'=>hcc i (.string x) (by
       have hil:i<KL.length:=by
        have:=(List.getElem?_eq_some_iff.1 hx').1;simpa using this
       simp[hil]at hx';subst hx';simp[Jg,hil])) lw (by rw[el];omega) (by rw[el];exact(Dm OS).1) (by
        show(Lib.join (((List.range KL.length).map (Jf KL)).map (·.data.toList)) [32]).length<=_;rw[jl];omega)
      rw[el]at this;refine this.mono ?_;rintro e w' ⟨rfl,hb⟩;refine⟨?_,hb⟩;have e2:(⟨(Lib.join (((List.range KL.length).map (Jf KL)).map (·.data.toList)) (⟨#[32]⟩:ByteArray).data.toList).toArray⟩:ByteArray)=Qc (AX KL) KL.length:=by
       have:(Lib.join (((List.range KL.length).map (Jf KL)).map (·.data.toList)) (⟨#[32]⟩:ByteArray).data.toList)=(Qc (AX KL) KL.length).data.toList:=JJ.out.symm;rw[this]
      rw[e2])
     clear hcc hr lw JS;go_wp2_with fail
     refine JN.out.mono ?_;rintro e w1 ⟨rfl,b1⟩;have B1:=hid (Af BW b1);clear b1;go_wp2;go_ret;exact⟨rfl,HW.out.below B1,B1.out.mono hB⟩
    ·have e0:KL=[]:=List.eq_nil_of_length_eq_zero (by omega);subst e0;have SH:=OS.out.2;have en:a=none∨∃gb,a=some ⟨gb,0,none⟩:=by
      rcases SH with⟨hv,_⟩|⟨gb,cap,cur,hv,_⟩
      ·left;cases hv;rfl
      ·right;cases hv;exact⟨gb,rfl⟩
     clear SH;have JN:=hid (VN a cc (.string ⟨#[32]⟩) wr);go_wp2_with fail
     refine JN.out.mono ?_;rintro e w1 ⟨rfl,b1⟩;have B1:=hid (Af BW b1);clear b1;go_wp2;go_ret;exact⟨rfl,HW.out.below B1,B1.out.mono hB⟩
theorem UY(k:Int)(w:World):Calls prog 123 #[.int .i64 k] w fun e w'=>e= .returned (.bool (k==6||k==9||k==10))/\Below w w w':=by
 by_cases h0:k=6
 ·subst h0;go_enter func123,ntmps123
  go_wp2;go_ret;exact⟨by simp,Below.refl _ _⟩
 ·have b0:(k==6)=false:=by simpa using h0
  by_cases h1:k=9
  ·subst h1;go_enter func123,ntmps123
   go_wp2;go_ret;exact⟨by simp,Below.refl _ _⟩
  ·have b1:(k==9)=false:=(by simpa using h1);by_cases h2:k=10
   ·subst h2;go_enter func123,ntmps123
    go_wp2;go_ret;exact⟨by simp,Below.refl _ _⟩
   ·have b2:(k==10)=false:=(by simpa using h2);go_enter func123,ntmps123
    go_wp2;go_ret;exact⟨by simp[h0,h1,h2],Below.refl _ _⟩
theorem KG(v:Value)(k:Int)(w:World):Calls prog 235 #[.agg #[v],.int .i64 k] w fun e w'=>e= .returned (.bool (k==6||k==7||k==8))/\Below w w w':=by
 by_cases h0:k=6
 ·subst h0;go_enter func235,ntmps235
  go_wp2;go_ret;exact⟨by simp,Be w _⟩
 ·have b0:(k==6)=false:=by simpa using h0
  by_cases h1:k=7
  ·subst h1;go_enter func235,ntmps235
   go_wp2;go_ret;exact⟨by simp,Be w _⟩
  ·have b1:(k==7)=false:=(by simpa using h1);by_cases h2:k=8
   ·subst h2;go_enter func235,ntmps235
    go_wp2;go_ret;exact⟨by simp,Be w _⟩
   ·have b2:(k==8)=false:=(by simpa using h2);go_enter func235,ntmps235
    go_wp2;go_ret;exact⟨by simp[h0,h1,h2],Be w _⟩
theorem MG(v:Value)(k:Int)(w:World):Calls prog 236 #[.agg #[v],.int .i64 k] w fun e w'=>e= .returned (.bool (k==9||k==10))/\Below w w w':=by
 by_cases h0:k=9
 ·subst h0;go_enter func236,ntmps236
  go_wp2;go_ret;exact⟨by simp,Be w _⟩
 ·have b0:(k==9)=false:=by simpa using h0
  by_cases h1:k=10
  ·subst h1;go_enter func236,ntmps236
   go_wp2;go_ret;exact⟨by simp,Be w _⟩
  ·have b1:(k==10)=false:=(by simpa using h1);go_enter func236,ntmps236
   go_wp2;go_ret;exact⟨by simp[h0,h1],Be w _⟩
theorem Pk(v:Value)(k:Int)(w:World):Calls prog 237 #[.agg #[v],.int .i64 k] w fun e w'=>e= .returned (.bool (k==15))/\Below w w w':=by
 by_cases h0:k=15
 ·subst h0;go_enter func237,ntmps237
  go_wp2;go_ret;exact⟨by simp,Be w _⟩
 ·have b0:(k==15)=false:=by simpa using h0
  go_enter func237,ntmps237
  go_wp2;go_ret;exact⟨by simp[h0],Be w _⟩
theorem M7(v:Value)(k:Int)(w:World):Calls prog 238 #[.agg #[v],.int .i64 k] w fun e w'=>e= .returned (.bool (k==13))/\Below w w w':=by
 by_cases h0:k=13
 ·subst h0;go_enter func238,ntmps238
  go_wp2;go_ret;exact⟨by simp,Be w _⟩
 ·have b0:(k==13)=false:=by simpa using h0
  go_enter func238,ntmps238
  go_wp2;go_ret;exact⟨by simp[h0],Be w _⟩
def Bf(k:Int):Int:=if k=2 then 1 else if k=3 then 2 else if k=4 then 3 else 4
theorem GQ(k:Int)(w:World):Calls prog 109 #[.int .i64 k] w fun e w'=>e= .returned (.int .i64 (Bf k))/\w'=w:=by
 by_cases h0:k=2
 ·subst h0;go_enter func109,ntmps109
  go_wp2;go_ret;exact⟨by simp[Bf],rfl⟩
 ·have b0:(k==2)=false:=by simpa using h0
  by_cases h1:k=3
  ·subst h1;go_enter func109,ntmps109
   go_wp2;go_ret;exact⟨by simp[Bf],rfl⟩
  ·have b1:(k==3)=false:=(by simpa using h1);by_cases h2:k=4
   ·subst h2;go_enter func109,ntmps109
    go_wp2;go_ret;exact⟨by simp[Bf],rfl⟩
   ·have b2:(k==4)=false:=(by simpa using h2);go_enter func109,ntmps109
    go_wp2;go_ret;exact⟨by simp[Bf,h0,h1,h2],rfl⟩
variable {L:List Int}{h:Nat->Int}
theorem Ml(d:Array Int)(hs:∀i j,i<=j->j<d.size->d[i]!<=d[j]!):∀m,m<=d.size->(Lib.compactUpTo d m).Pairwise (· <·)/\∀x,x∈Lib.compactUpTo d m↔∃i,i<m/\x=d[i]!
 |0,_=>⟨by simp[Lib.compactUpTo],by simp[Lib.compactUpTo]⟩
 |m+1,hm=>by
  obtain⟨h1,h2⟩:=Ml d hs m (by omega);rw[Lib.compactUpTo_succ];by_cases h0:m=0
  ·subst h0;simp[Lib.compactUpTo,Lib.keeps]
  ·by_cases he:d[m]! =d[m-1]!
   ·rw[Lib.keeps_neg (by omega) he];simp only[Bool.false_eq_true,if_false,List.append_nil];refine⟨h1,fun x=>?_⟩;rw[h2];constructor
    ·rintro⟨i,hi,e⟩;exact⟨i,by omega,e⟩
    ·rintro⟨i,hi,e⟩;by_cases e1:i=m
     ·subst e1;exact⟨i-1,by omega,by rw[e,he]⟩
     ·exact⟨i,by omega,e⟩
   ·rw[Lib.keeps_pos he];simp only[if_true];refine⟨?_,fun x=>?_⟩
    ·rw[List.pairwise_append];refine⟨h1,by simp,fun a ha b hb=>?_⟩;obtain⟨i,hi,rfl⟩:=(h2 a).1 ha;simp at hb;subst hb;have a1:=hs i (m-1) (by omega) (by omega);have a2:=hs (m-1) m (by omega) (by omega);omega
    ·rw[List.mem_append,h2];simp only[List.mem_singleton];constructor
     ·rintro(⟨i,hi,e⟩|e)
      ·exact⟨i,by omega,e⟩
      ·exact⟨m,by omega,e⟩
     ·rintro⟨i,hi,e⟩;by_cases e1:i=m
      ·subst e1;exact .inr e
      ·exact .inl ⟨i,by omega,e⟩
theorem YI(l:List Int):(Cy l).Pairwise (· <=·):=by
 have:=List.pairwise_mergeSort (le:=fun(x y:Int)=>decide (x<=y)) (fun a b c h1 h2=>by simp at *;omega) (fun a b=>by simp;omega) l;exact this.imp (fun h=>by simpa using h)
theorem QV(l:List Int):(Lib.compact (Cy l)).Pairwise (· <·)/\∀x,x∈Lib.compact (Cy l)↔x∈l:=by
 have h:=Ml (Cy l).toArray (fun i j hij hj=>by
  simp only[List.size_toArray]at hj;by_cases e:i=j
  ·subst e;exact Int.le_refl _
  ·have:=List.pairwise_iff_getElem.1 (YI l) i j (by omega) hj (by omega);simpa[getElem!_pos,hj,show i<(Cy l).length by omega]using this) (Cy l).length (by simp)
 refine⟨h.1,fun x=>?_⟩;unfold Lib.compact;rw[h.2,<-LX (l:=l)];constructor
 ·rintro⟨i,hi,rfl⟩;have:(Cy l).toArray[i]! =(Cy l)[i]:=by simp[getElem!_pos,hi]
  rw[this];exact List.getElem_mem hi
 ·intro hx;obtain⟨i,hi,rfl⟩:=List.getElem_of_mem hx;exact⟨i,hi,by simp[getElem!_pos,hi]⟩
theorem Mc(hL:L.Pairwise (· <·)):∀q,(DO L h q).Pairwise (· <·)
 |0=>hL
 |q+1=>JB (Mc hL q)
theorem PH(x:Int):∀q,x∈DO L h q↔x∈L∨∃i,i<q/\x=h i
 |0=>by simp[DO]
 |q+1=>by
  simp only[DO];rw[Vn,PH x q];constructor
  ·rintro((a|⟨i,hi,e⟩)|e)
   ·exact .inl a
   ·exact .inr ⟨i,by omega,e⟩
   ·exact .inr ⟨q,by omega,e⟩
  ·rintro(a|⟨i,hi,e⟩)
   ·exact .inl (.inl a)
   ·by_cases e1:i=q
    ·subst e1;exact .inr e
    ·exact .inl (.inr ⟨i,by omega,e⟩)
theorem Mp(hL:L.Pairwise (· <·))(h:Nat->Int)(n:Nat):Lib.compact (Cy (L++(List.range n).map h))=DO L h n:=by
 obtain⟨a,b⟩:=QV (L++(List.range n).map h);refine OD a (Mc hL n) (fun x=>?_);rw[b,PH,List.mem_append,List.mem_map];simp only[List.mem_range];constructor
 ·rintro(c|⟨i,hi,e⟩)
  ·exact .inl c
  ·exact .inr ⟨i,hi,e.symm⟩
 ·rintro(c|⟨i,hi,e⟩)
  ·exact .inl c
  ·exact .inr ⟨i,hi,e.symm⟩
theorem Re(hL:L.Pairwise (· <·))(x:Int):Lib.compact (Cy (L++[x]))=DK L x:=by
 have:=Mp hL (fun _=>x) 1;simpa[DO]using this
variable {b:Int}{c:Au}{W:World}{X:Ae}{n:Nat}{h:Nat->Int}
theorem Ko{o:AI}{b':Int}{c':Au}(hc:c.at W)(ho:o.at W)(hc':c'.at W)(l1:AZ b c.n c.f c.g=true)(l2:BJ o.n o.h=true)(l3:AZ b' c'.n c'.f c'.g=true):
 Calls prog 118 #[.agg #[.int .i64 b,c],o,.agg #[.int .i64 b',c']] W fun e w'=>e= .returned (.bool (Ek b c o b' c'))/\Below W W w':=by
 have h:=Hq b c.a c.n c.k c.f c.g o.a o.n o.k o.h b' c'.a c'.n c'.k c'.f c'.g W hc.1 hc'.1 ho.1 hc.2 hc'.2 ho.2;refine h.mono ?_;rintro e w' ⟨rfl,hb⟩;refine⟨?_,hb⟩;unfold Ek Dc;simp[l1,l2,l3]
theorem Tp(h:Nl X):Dq X.id X.made X.b1 X.c1.n X.c1.f X.c1.g X.b2 X.c2.n X.c2.f X.c2.g X.own.n X.own.h=true:=Io.2 h
theorem aR(hX:X.at W)(hc:c.at W)(hF:Nl X)(l:AZ b c.n c.f c.g=true):
 Calls prog 122 #[.agg X,.agg #[.int .i64 b,c]] W fun e w'=>e= .returned (.bool (Hp X b c))/\Below W W w':=by
 refine(KC X.id X.made X.b1 X.c1.a X.c1.n X.c1.k X.c1.f X.c1.g X.b2 X.c2.a X.c2.n X.c2.k X.c2.f X.c2.g X.own.a X.own.n X.own.k X.own.h b c.a c.n c.k c.f c.g W hX.1.1 hX.2.1.1 hX.2.2.1 hX.1.2 hX.2.1.2 hX.2.2.2 hc.1 hc.2).mono ?_;rintro e w' ⟨rfl,hb⟩;refine⟨?_,hb⟩;unfold Ma Hp;rw[Tp hF,l];simp
theorem WX(hX:X.at W)(hc:c.at W)(hF:Nl X)(l:AZ b c.n c.f c.g=true):
 Calls prog 114 #[.agg X,.agg #[.int .i64 b,c]] W fun e w'=>e= .returned (.bool (Ap X b c))/\Below W W w':=by
 refine(MO X.id X.made X.b1 X.c1.a X.c1.n X.c1.k X.c1.f X.c1.g X.b2 X.c2.a X.c2.n X.c2.k X.c2.f X.c2.g X.own.a X.own.n X.own.k X.own.h b c.a c.n c.k c.f c.g W hX.1.1 hX.2.1.1 hX.2.2.1 hX.1.2 hX.2.1.2 hX.2.2.2 hc.1 hc.2).mono ?_;rintro e w' ⟨rfl,hb⟩;refine⟨?_,hb⟩;unfold Ky Ma NI Ap Hp;rw[Tp hF,l];simp
theorem Ym(e:BJ n h=true):∀i j,i<j->j<n->h i<h j:=by
 obtain⟨_,ha⟩:=PY e;have one:∀j,0<j->j<n->h (j-1)<h j:=fun j h0 hj=>by
  have:=ha j hj;unfold Dz at this;simp only[Bool.and_eq_true,Bool.or_eq_true,beq_iff_eq,decide_eq_true_eq]at this;rcases this.2 with h|h
  ·omega
  ·exact h
 intro i j hij hj;induction j with
 |zero=>omega
 |succ j ih=>
  have h1:=one (j+1) (by omega) hj;simp only[Nat.add_sub_cancel]at h1;by_cases e:i=j
  ·subst e;exact h1
  ·have:=ih (by omega) (by omega);omega
theorem SR(e:BJ n h=true):((List.range n).map h).Pairwise (· <·):=by
 rw[List.pairwise_iff_getElem];intro i j hi hj hij;simp only[List.length_map,List.length_range]at hi hj;simpa using Ym e i j hij hj
structure Env(E:Nat->Addr)(w:World)(B P:Nat)(s:Al)(g ca q co:Nat)(lt:List Ae)(lo:List Ab)(t c C:Nat)(nb:Nat->Nat)(kv:Nat->Value)(K:Nat->List Int)(X:Ae):Prop where
 h:Ew w B P s g ca q co lt lo t (.map (some c))
 n:DW w C c lo.length (fun i=>(Aa lo i).id) q 0 nb kv K
 e:Ks w E
 h14:14<=B
 hB:B<=w.heap.size
 ht:t<lt.length
 hX:X=lt[t]
 hs:∀W,Below B w W->s.at W
 so:s.ok=true
 ok:okL lt lo=true
 tab:Rl w
 kid:∀u,u<lo.length->K u=JL (Aa lo) (Aa lo u).id lo.length
 ti:Ku lo
theorem Ox{x:Int}(h:0<=x/\x<=1000000):(Lit.int .i64 x).wf=true:=by
 have e1:IntKind.i64.min= -9223372036854775808:=by decide
 have e2:IntKind.i64.max=9223372036854775807:=by decide
 simp only[Lit.wf,Bool.and_eq_true,decide_eq_true_eq,e1,e2];omega
theorem FN{lo:List Ab}{u:Nat}(h:u<lo.length):Aa lo u∈lo:=by rw[AM h];exact List.getElem_mem h
section
variable {E:Nat->Addr}{w W:World}{B P:Nat}{s:Al}{g ca q co:Nat}{lt:List Ae}{lo:List Ab}{t c C:Nat}{nb:Nat->Nat}{kv:Nat->Value}{K:Nat->List Int}{X:Ae}
theorem Rl.low{w w':World}(h:Rl w)(hb:Below w w w'):Rl w':=h.below hb
theorem Env.below(v:Env E w B P s g ca q co lt lo t c C nb kv K X)(hb:Below w w W):Env E W B P s g ca q co lt lo t c C nb kv K X:=
 ⟨v.h.below hb,v.n.below hb,v.e.below v.h14 (hb.mono v.hB),v.h14,Nat.le_trans v.hB hb.size,v.ht,v.hX,fun W' hW=>v.hs W' ((hb.mono v.hB).trans hW),v.so,v.ok,v.tab.below hb,v.kid,v.ti⟩
theorem Env.thr(v:Env E w B P s g ca q co lt lo t c C nb kv K X):Nl X:=by rw[v.hX];exact Fq v.ok _ (List.getElem_mem v.ht)
theorem Env.xat(v:Env E w B P s g ca q co lt lo t c C nb kv K X):X.at w:=by rw[v.hX];exact(v.h.st.tn _ (List.getElem_mem v.ht)).at
theorem Env.oat(v:Env E w B P s g ca q co lt lo t c C nb kv K X){u:Nat}(hu:u<lo.length):(Aa lo u).at w:=by
 rw[AM hu];exact⟨(v.h.st.on _ (List.getElem_mem hu)).1.1,(v.h.st.on _ (List.getElem_mem hu)).2.1.1,(v.h.st.on _ (List.getElem_mem hu)).2.2.1.1,(v.h.st.on _ (List.getElem_mem hu)).2.2.2.1,Cm v.ok _ (List.getElem_mem hu)⟩
theorem Env.obj(v:Env E w B P s g ca q co lt lo t c C nb kv K X){u:Nat}(hu:u<lo.length):MN (Aa lo u):=E8 v.ok _ (FN hu)
theorem Env.changes(v:Env E w B P s g ca q co lt lo t c C nb kv K X)(p:Nat)(hp:p<lo.length)(W:World)(hb:Below w w W):
 Calls prog 114 #[.agg X,.agg #[.int .i64 (Aa lo p).b1,.slice (Aa lo p).c1.a (Aa lo p).c1.n (Aa lo p).c1.k]] W fun e w'=>e= .returned (.bool (Ap X (Aa lo p).b1 (Aa lo p).c1))/\Below W W w':=
 WX (v.xat.below hb) ((v.oat hp).1.below hb) v.thr (v.obj hp).l1
theorem Env.sees(v:Env E w B P s g ca q co lt lo t c C nb kv K X)(p:Nat)(hp:p<lo.length)(W:World)(hb:Below w w W):
 Calls prog 122 #[.agg X,.agg #[.int .i64 (Aa lo p).b1,.slice (Aa lo p).c1.a (Aa lo p).c1.n (Aa lo p).c1.k]] W fun e w'=>e= .returned (.bool (Hp X (Aa lo p).b1 (Aa lo p).c1))/\Below W W w':=
 aR (v.xat.below hb) ((v.oat hp).1.below hb) v.thr (v.obj hp).l1
theorem bU{s:Al}(so:s.ok=true):(Lit.int .i64 s.to).wf=true:=by
 refine Ox ?_;unfold Al.ok G5 Fc at so;simp only[Bool.and_eq_true]at so;obtain⟨⟨_,h⟩,_⟩:=so;unfold MK at h;split at h
 ·simp only[CF]at h;omega
 ·have:=beq_iff_eq.1 h;omega
theorem cM{s:Al}(sf:Vt s):(Lit.int .i64 s.id).wf=true:=by
 refine Ox ?_;have h:=sf.id;unfold MK at h;split at h
 ·simp only[CF]at h;omega
 ·have:=beq_iff_eq.1 h;omega
end
def KP(w:World)(P:Nat):Prop:=∃(ga qa:Option Addr) (n m ca co:Nat),w.cell? ⟨P,10,none⟩=some (.slice ga n ca)/\w.cell? ⟨P,11,none⟩=some (.slice qa m co)
theorem KP.of{w:World}{P ty:Nat}{s:Al}{g nt ca q no co t:Nat}{m:Value}(h:Ah w P (.cells (If s g nt ca q no co t m) ty)):KP w P:=⟨_,_,_,_,_,_,h.jZ.2.1,h.jZ.2.2.1⟩
def Kc(E:Nat->Addr)(B P:Nat)(s:Al)(lt:List Ae)(lo:List Ab)(t:Nat)(X:Ae)(m:Value)(w w':World)(tx:ByteArray)(v:Value):Prop:=
 Below B w w'/\((KP w' P/\∃c,Told w' B E v c/\c≠0/\FV X s lt lo t c ⟨#[]⟩ lt lo)∨(v= .nilIface/\∃(g ca q co:Nat) (lt':List Ae) (lo':List Ab),Nc w' B P s g ca q co lt' lo' t m/\FV X s lt lo t 0 tx lt' lo'))
section
variable {E:Nat->Addr}{w W:World}{B P:Nat}{s:Al}{g ca q co:Nat}{lt:List Ae}{lo:List Ab}{t c C:Nat}{nb:Nat->Nat}{kv:Nat->Value}{K:Nat->List Int}{X:Ae}
theorem Kc.from{m:Value}{w':World}{tx:ByteArray}{r:Value}(h:Kc E B P s lt lo t X m W w' tx r)(hb:Below B w W):Kc E B P s lt lo t X m w w' tx r:=⟨hb.trans h.1,h.2⟩
theorem Kc.no{m:Value}{w':World}{tx:ByteArray}{r:Value}{c:Int}(kp:KP w' P)(hb:Below B w w')(ht:Told w' B E r c)(hc:c≠0)(ha:FV X s lt lo t c ⟨#[]⟩ lt lo):Kc E B P s lt lo t X m w w' tx r:=⟨hb,.inl ⟨kp,c,ht,hc,ha⟩⟩
theorem Kc.yes{m:Value}{w':World}{tx:ByteArray}{lt':List Ae}{lo':List Ab}{g' ca' q' co':Nat}(hb:Below B w w')(hs:Nc w' B P s g' ca' q' co' lt' lo' t m)(ha:FV X s lt lo t 0 tx lt' lo'):Kc E B P s lt lo t X m w w' tx .nilIface:=⟨hb,.inr ⟨rfl,_,_,_,_,_,_,hs,ha⟩⟩
theorem bT(v:Env E w B P s g ca q co lt lo t c C nb kv K X){u:Nat}(hu:Cd X lo s.id 1=some u)(hk:(s.kind=6/\Ap X (Aa lo u).b1 (Aa lo u).c1=true)∨s.kind=7∨s.kind=8):
 Calls prog 124 #[.pointer P,.agg #[.pointer (some ⟨q,u*10,none⟩)]] w fun e w'=>∃tx r,e= .returned (.tuple #[.string tx,r])/\Kc E B P s lt lo t X (.map (some c)) w w' tx r:=by
 obtain⟨_,ul,_⟩:=Eb hu;have eo:=AM ul;have hd:=Cm v.ok;rcases hk with⟨hk,hc⟩|hk|hk
 ·refine(Lw w B P s g ca q co lt lo t _ v.h v.hB u ul _ eo hd hk).mono ?_;rintro e w' ⟨rfl,h1,h2⟩;exact⟨_,_,rfl,.yes h2 h1.f (.k6 hk (.inr ⟨u,hu,.inr ⟨hc,rfl,rfl,rfl,rfl⟩⟩))⟩
 ·refine(MJ w B P s g ca q co lt lo t _ v.h v.hB u ul _ eo hd hk).mono ?_;rintro e w' ⟨rfl,h1,h2⟩;exact⟨_,_,rfl,.yes h2 h1.f (.k7 hk (.inr ⟨u,hu,rfl,rfl,rfl,rfl⟩))⟩
 ·have b0:Below w w (w.alloc (.cells #[.pointer (some ⟨q,u*10,none⟩)] 177)):=Be w _;have V:=v.below b0;have CT:=TF E _ B P s g ca q co lt lo t c C nb kv K V.h V.n V.e V.h14 V.hB V.ht X V.hX u ul _ eo hd (bU v.so) (fun p hp W hW=>V.changes p hp W hW);refine(MQ w B P s g ca q co lt lo t _ v.h u ul _ eo hd hk _ CT).mono ?_;rintro e w' ⟨r,rfl,c',lo',h1,h2,h3,h4⟩;refine⟨_,r,rfl,?_⟩;have h2':=(b0.mono v.hB).trans h2;rcases h4 with⟨a1,rfl,rfl⟩|⟨p,a1,⟨a2,rfl,rfl⟩|⟨a2,a3,rfl,rfl⟩⟩
  ·exact .no (.of h1.wk) h2' h3 (by decide) (.k8 hk (.inr ⟨u,hu,.inl ⟨a1,rfl,rfl,rfl,rfl⟩⟩))
  ·exact .no (.of h1.wk) h2' h3 (by decide) (.k8 hk (.inr ⟨u,hu,.inr ⟨p,a1,.inl ⟨a2,rfl,rfl,rfl,rfl⟩⟩⟩))
  ·rcases h3 with⟨_,rfl⟩|⟨h,_⟩
   ·exact .yes h2' h1.f (.k8 hk (.inr ⟨u,hu,.inr ⟨p,a1,.inr ⟨a2,a3,rfl,rfl,rfl,rfl⟩⟩⟩))
   ·exact absurd rfl h
theorem cR(v:Env E w B P s g ca q co lt lo t c C nb kv K X){u:Nat}(hu:Cd X lo s.id 2=some u)(hc:Ap X (Aa lo u).b1 (Aa lo u).c1=true)(hk:s.kind=9∨s.kind=10):
 Calls prog 125 #[.pointer P,.agg #[.pointer (some ⟨q,u*10,none⟩)]] w fun e w'=>∃tx r,e= .returned (.tuple #[.string tx,r])/\Kc E B P s lt lo t X (.map (some c)) w w' tx r:=by
 obtain⟨_,ul,_⟩:=Eb hu;have eo:=AM ul;have hd:=Cm v.ok;have hi:=(LG v.ok _ (FN ul)).1;rcases hk with hk|hk
 ·by_cases hf:(Aa lo u).jA.n=8
  ·refine(OT E w B P s g ca q co lt lo t _ v.h v.e v.h14 v.hB u ul _ eo hd hk hf).mono ?_;rintro e w' ⟨r,rfl,h1,h2,h3⟩;exact⟨_,r,rfl,.no (.of h3.wk) h1 h2 (by decide) (.k9 hk (.inr ⟨u,hu,.inr (.inl ⟨hc,hf,rfl,rfl,rfl,rfl⟩)⟩))⟩
  ·refine(Qq w B P s g ca q co lt lo t _ v.h v.hB u ul _ eo hd hk hf (by omega) (v.ti _ (FN ul)) (by have:=Gh (GP v.so).data;unfold maxLen;omega)).mono ?_;rintro e w' ⟨a,cc,rfl,h1,h2⟩;exact⟨_,_,rfl,.yes h2 h1.f (.k9 hk (.inr ⟨u,hu,.inr (.inr ⟨hc,hf,rfl,rfl,rfl,a,cc,rfl⟩)⟩))⟩
 ·by_cases hf:(Aa lo u).jA.n=0
  ·refine(OY E w B P s g ca q co lt lo t _ v.h v.e v.h14 v.hB u ul _ eo hd hk hf).mono ?_;rintro e w' ⟨r,rfl,h1,h2,h3⟩;exact⟨_,r,rfl,.no (.of h3.wk) h1 h2 (by decide) (.k10 hk (.inr ⟨u,hu,.inr (.inl ⟨hc,hf,rfl,rfl,rfl,rfl⟩)⟩))⟩
  ·refine(Pp w B P s g ca q co lt lo t _ v.h v.hB u ul _ eo hd hk hf (by omega)).mono ?_;rintro e w' ⟨rfl,⟨a,kk,h1⟩,h2⟩;exact⟨_,_,rfl,.yes h2 h1 (.k10 hk (.inr ⟨u,hu,.inr (.inr ⟨hc,hf,rfl,rfl,rfl,a,kk,rfl⟩)⟩))⟩
theorem cV(v:Env E w B P s g ca q co lt lo t c C nb kv K X){u:Nat}(hu:Cd X lo s.id 3=some u)(hk:s.kind=15):
 Calls prog 126 #[.pointer P,.agg #[.pointer (some ⟨q,u*10,none⟩)]] w fun e w'=>∃tx,e= .returned (.string tx)/\Kc E B P s lt lo t X (.map (some c)) w w' tx .nilIface:=by
 obtain⟨ha,ul,hid_,_⟩:=Eb hu;have eo:=AM ul;rw[<-eo]at hid_;have on:=Ec v.ok;have hl:(JL (Aa lo) (Aa lo u).id lo.length).length<=lo.length:=by
  unfold JL;rw[List.length_map];exact Nat.le_trans (List.length_filter_le _ _) (by simp)
 refine(XL w B P s g ca q co lt lo t c C nb kv K v.h v.n v.hB u ul _ eo (Cm v.ok) (by rw[hid_];exact ha) (Ox (Ht v.ok _ (FN ul))) _ (v.kid u ul) (by omega) (fun x hx=>?_) v.tab).mono ?_
 ·unfold JL at hx;obtain⟨i,hi,rfl⟩:=List.mem_map.1 hx;exact Ht v.ok _ (FN (List.mem_range.1 (List.mem_filter.1 hi).1))
 ·rintro e w' ⟨rfl,h1,h2⟩;refine⟨_,rfl,.yes h2 h1.f (.k15 hk (.inr ⟨u,hu,rfl,?_,rfl,rfl⟩))⟩;rw[hid_]
theorem cO(v:Env E w B P s g ca q co lt lo t c C nb kv K X){u:Nat}(hu:Cd X lo s.id 4=some u)(hk:s.kind=13):
 Calls prog 127 #[.pointer P,.agg #[.pointer (some ⟨q,u*10,none⟩)]] w fun e w'=>∃r,e= .returned r/\Kc E B P s lt lo t X (.map (some c)) w w' ⟨#[]⟩ r:=by
 obtain⟨ha,ul,_⟩:=Eb hu;have eo:=AM ul;have o1:=I5 v.thr.own;have o2:=I5 (v.obj ul).own;have PT:Lib.compact (Cy ((List.range X.own.n).map X.own.h++(List.range (Aa lo u).own.n).map (Aa lo u).own.h))=DO ((List.range X.own.n).map X.own.h) (Aa lo u).own.h (Aa lo u).own.n:=Mp (SR v.thr.own) _ _;refine(WG E w B P s g ca q co lt lo t _ v.h v.e v.h14 v.hB v.ht X v.hX u ul _ eo (Cm v.ok) (Ek X.b1 X.c1 X.own (Aa lo u).b2 (Aa lo u).c2) (fun W hW=>Ko (v.xat.below hW).1 (v.xat.below hW).2.2 ((v.oat ul).2.2.2.1.below hW) v.thr.l1 v.thr.own (v.obj ul).l2) (by omega) (by omega) _ PT.symm).mono ?_;rintro e w' ⟨r,x,c',rfl,h1,h2,h3,h4⟩;refine⟨r,rfl,?_⟩;rcases h4 with⟨rfl,a1,rfl⟩|⟨rfl,a1,a2,rfl⟩|⟨rfl,a1,a2,a,cc,rfl⟩
 ·exact .no (.of h1.wk) h2 h3 (by decide) (.k13 hk (.inr ⟨u,hu,.inl ⟨a1,rfl,rfl,rfl,rfl⟩⟩))
 ·exact .no (.of h1.wk) h2 h3 (by decide) (.k13 hk (.inr ⟨u,hu,.inr (.inl ⟨a1,a2,rfl,rfl,rfl,rfl⟩)⟩))
 ·rcases h3 with⟨_,rfl⟩|⟨h,_⟩
  ·exact .yes h2 h1.f (.k13 hk (.inr ⟨u,hu,.inr (.inr ⟨a1,a2,rfl,rfl,a,cc,rfl,rfl⟩)⟩))
  ·exact absurd rfl h
end
def II(l l2:List Ab):Prop:=l2.length=l.length/\∀j,j<l.length->(Aa l j).same (Aa l2 j)
theorem II.refl(l:List Ab):II l l:=⟨rfl,fun _ _=>Ab.same.refl _⟩
def Ou(E:Nat->Addr)(B P:Nat)(s:Al)(lt:List Ae)(lo:List Ab)(t:Nat)(X:Ae)(m:Value)(w w':World)(tx:ByteArray)(v:Value):Prop:=
 Below B w w'/\((KP w' P/\∃c,Told w' B E v c/\c≠0/\FV X s lt lo t c ⟨#[]⟩ lt lo)∨(v= .nilIface/\∃(g ca q co:Nat) (lt':List Ae) (lo' lo2:List Ab),Nc w' B P s g ca q co lt' lo' t m/\II lo' lo2/\FV X s lt lo t 0 tx lt' lo2))
theorem Kc.q{E:Nat->Addr}{B P:Nat}{s:Al}{lt:List Ae}{lo:List Ab}{t:Nat}{X:Ae}{m:Value}{w w':World}{tx:ByteArray}{v:Value}(h:Kc E B P s lt lo t X m w w' tx v):Ou E B P s lt lo t X m w w' tx v:=by
 refine⟨h.1,?_⟩;rcases h.2 with h|⟨h1,g,ca,q,co,lt',lo',h2,h3⟩
 ·exact .inl h
 ·exact .inr ⟨h1,g,ca,q,co,lt',lo',lo',h2,II.refl _,h3⟩
def YF(E:Nat->Addr)(s:Al):Prop:=∀{w:World}{B P g ca q co:Nat}{lt:List Ae}{lo:List Ab}{t c C:Nat}{nb:Nat->Nat}{kv:Nat->Value}{K:Nat->List Int}{X:Ae},Env E w B P s g ca q co lt lo t c C nb kv K X->18<=B->
 Calls prog 45 #[.pointer P] w fun e w'=>∃tx r,e= .returned (.tuple #[.string tx,r])/\Ou E B P s lt lo t X (.map (some c)) w w' tx r

variable {w:World}{B q co n i e sz:Nat}{l:List Ab}
theorem AO.store(h:w.ownsRow B 63 10 (.slice q n co) n (Aw l))(hi:i<l.length)(v:Ab):
 ((((((((((w.setCell ⟨q,i*10,none⟩ (.int .i64 v.id)).setCell ⟨q,i*10+1,none⟩ (.int .i64 v.kind)).setCell ⟨q,i*10+2,none⟩ (.int .i64 v.up)).setCell ⟨q,i*10+3,none⟩ (.int .i64 v.b1)).setCell ⟨q,i*10+4,none⟩ (.slice v.c1.a v.c1.n v.c1.k)).setCell ⟨q,i*10+5,none⟩ (.string v.data)).setCell ⟨q,i*10+6,none⟩ (.slice v.jA.a v.jA.n v.jA.k)).setCell ⟨q,i*10+7,none⟩ (.slice v.own.a v.own.n v.own.k)).setCell ⟨q,i*10+8,none⟩ (.int .i64 v.b2)).setCell ⟨q,i*10+9,none⟩ (.slice v.c2.a v.c2.n v.c2.k)).ownsRow B 63 10 (.slice q n co) n (Aw (l.set i v)):=by
 obtain⟨o,ho⟩:∃o,o=l[i]:=⟨_,rfl⟩;have e0:=Db (f:=Ab.cs) Ab.jK (l:=l) (t:=i) (x:=(⟨v.id,o.kind,o.up,o.b1,o.c1,o.data,o.jA,o.own,o.b2,o.c2⟩:Ab)) (u:= .int .i64 v.id) (i:=0) (by exact hi) (by omega) (by rw[<-ho];rfl);have h0:=(World.ownsRow.stored h (i*10+0) (.int .i64 v.id)).1;rw[show Aw l=((l).map Ab.cs).flatten from rfl,e0]at h0;have e1:=Db (f:=Ab.cs) Ab.jK (l:=(l.set i ⟨v.id,o.kind,o.up,o.b1,o.c1,o.data,o.jA,o.own,o.b2,o.c2⟩)) (t:=i) (x:=(⟨v.id,v.kind,o.up,o.b1,o.c1,o.data,o.jA,o.own,o.b2,o.c2⟩:Ab)) (u:= .int .i64 v.kind) (i:=1) (by rw[List.length_set];exact hi) (by omega) (by simp only[List.getElem_set_self];rfl);rw[List.set_set]at e1;have h1:=(World.ownsRow.stored h0 (i*10+1) (.int .i64 v.kind)).1;rw[e1]at h1;have e2:=Db (f:=Ab.cs) Ab.jK (l:=(l.set i ⟨v.id,v.kind,o.up,o.b1,o.c1,o.data,o.jA,o.own,o.b2,o.c2⟩)) (t:=i) (x:=(⟨v.id,v.kind,v.up,o.b1,o.c1,o.data,o.jA,o.own,o.b2,o.c2⟩:Ab)) (u:= .int .i64 v.up) (i:=2) (by rw[List.length_set];exact hi) (by omega) (by simp only[List.getElem_set_self];rfl);rw[List.set_set]at e2;have h2:=(World.ownsRow.stored h1 (i*10+2) (.int .i64 v.up)).1;rw[e2]at h2;have e3:=Db (f:=Ab.cs) Ab.jK (l:=(l.set i ⟨v.id,v.kind,v.up,o.b1,o.c1,o.data,o.jA,o.own,o.b2,o.c2⟩)) (t:=i) (x:=(⟨v.id,v.kind,v.up,v.b1,o.c1,o.data,o.jA,o.own,o.b2,o.c2⟩:Ab)) (u:= .int .i64 v.b1) (i:=3) (by rw[List.length_set];exact hi) (by omega) (by simp only[List.getElem_set_self];rfl);rw[List.set_set]at e3;have h3:=(World.ownsRow.stored h2 (i*10+3) (.int .i64 v.b1)).1;rw[e3]at h3;have e4:=Db (f:=Ab.cs) Ab.jK (l:=(l.set i ⟨v.id,v.kind,v.up,v.b1,o.c1,o.data,o.jA,o.own,o.b2,o.c2⟩)) (t:=i) (x:=(⟨v.id,v.kind,v.up,v.b1,v.c1,o.data,o.jA,o.own,o.b2,o.c2⟩:Ab)) (u:= .slice v.c1.a v.c1.n v.c1.k) (i:=4) (by rw[List.length_set];exact hi) (by omega) (by simp only[List.getElem_set_self];rfl);rw[List.set_set]at e4;have h4:=(World.ownsRow.stored h3 (i*10+4) (.slice v.c1.a v.c1.n v.c1.k)).1;rw[e4]at h4;have e5:=Db (f:=Ab.cs) Ab.jK (l:=(l.set i ⟨v.id,v.kind,v.up,v.b1,v.c1,o.data,o.jA,o.own,o.b2,o.c2⟩)) (t:=i) (x:=(⟨v.id,v.kind,v.up,v.b1,v.c1,v.data,o.jA,o.own,o.b2,o.c2⟩:Ab)) (u:= .string v.data) (i:=5) (by rw[List.length_set];exact hi) (by omega) (by simp only[List.getElem_set_self];rfl);rw[List.set_set]at e5;have h5:=(World.ownsRow.stored h4 (i*10+5) (.string v.data)).1;rw[e5]at h5;have e6:=Db (f:=Ab.cs) Ab.jK (l:=(l.set i ⟨v.id,v.kind,v.up,v.b1,v.c1,v.data,o.jA,o.own,o.b2,o.c2⟩)) (t:=i) (x:=(⟨v.id,v.kind,v.up,v.b1,v.c1,v.data,v.jA,o.own,o.b2,o.c2⟩:Ab)) (u:= .slice v.jA.a v.jA.n v.jA.k) (i:=6) (by rw[List.length_set];exact hi) (by omega) (by simp only[List.getElem_set_self];rfl);rw[List.set_set]at e6;have h6:=(World.ownsRow.stored h5 (i*10+6) (.slice v.jA.a v.jA.n v.jA.k)).1;rw[e6]at h6;have e7:=Db (f:=Ab.cs) Ab.jK (l:=(l.set i ⟨v.id,v.kind,v.up,v.b1,v.c1,v.data,v.jA,o.own,o.b2,o.c2⟩)) (t:=i) (x:=(⟨v.id,v.kind,v.up,v.b1,v.c1,v.data,v.jA,v.own,o.b2,o.c2⟩:Ab)) (u:= .slice v.own.a v.own.n v.own.k) (i:=7) (by rw[List.length_set];exact hi) (by omega) (by simp only[List.getElem_set_self];rfl);rw[List.set_set]at e7;have h7:=(World.ownsRow.stored h6 (i*10+7) (.slice v.own.a v.own.n v.own.k)).1;rw[e7]at h7;have e8:=Db (f:=Ab.cs) Ab.jK (l:=(l.set i ⟨v.id,v.kind,v.up,v.b1,v.c1,v.data,v.jA,v.own,o.b2,o.c2⟩)) (t:=i) (x:=(⟨v.id,v.kind,v.up,v.b1,v.c1,v.data,v.jA,v.own,v.b2,o.c2⟩:Ab)) (u:= .int .i64 v.b2) (i:=8) (by rw[List.length_set];exact hi) (by omega) (by simp only[List.getElem_set_self];rfl);rw[List.set_set]at e8;have h8:=(World.ownsRow.stored h7 (i*10+8) (.int .i64 v.b2)).1;rw[e8]at h8;have e9:=Db (f:=Ab.cs) Ab.jK (l:=(l.set i ⟨v.id,v.kind,v.up,v.b1,v.c1,v.data,v.jA,v.own,v.b2,o.c2⟩)) (t:=i) (x:=(⟨v.id,v.kind,v.up,v.b1,v.c1,v.data,v.jA,v.own,v.b2,v.c2⟩:Ab)) (u:= .slice v.c2.a v.c2.n v.c2.k) (i:=9) (by rw[List.length_set];exact hi) (by omega) (by simp only[List.getElem_set_self];rfl);rw[List.set_set]at e9;have h9:=(World.ownsRow.stored h8 (i*10+9) (.slice v.c2.a v.c2.n v.c2.k)).1;rw[e9]at h9;exact h9
theorem AO.cells(h:AO w B (.slice q l.length co) l)(hi:i<l.length):CZ w q (i*10) l[i]/\q<w.heap.size/\B<=q/\(∃cur,Ah w q (.cells cur 63)):=by
 obtain⟨b,off,e,hlt,hc⟩:=Bp.own h (by omega);cases e;obtain⟨c0,c1,c2,c3,c4,c5,c6,c7,c8,c9⟩:=Mv hi;have g:∀(j:Nat) (u:Value),(Aw l)[j]? =some u->w.cell? ⟨q,j,none⟩=some u:=fun j u hu=>by
  have:=hc j u hu;rw[Nat.zero_add]at this;exact this
 refine⟨⟨g _ _ c0,g _ _ c1,g _ _ c2,g _ _ c3,g _ _ c4,g _ _ c5,g _ _ c6,g _ _ c7,g _ _ c8,g _ _ c9⟩,hlt,?_⟩;rcases h.2 with⟨hv,_⟩|⟨g',cap,cur,hv,hB,hgg,_⟩
 ·cases hv
 ·cases hv;exact⟨hB,cur,hgg⟩
theorem SY:∀(vs:List Value) (o:Nat) (w:World) (xs:List Value),w.ownsRow B e sz (.slice q n co) n xs->∃xs',(w.setCells q o vs).ownsRow B e sz (.slice q n co) n xs'/\xs'.take o=xs.take o/\w.grownBy (w.setCells q o vs) (some q)
 |[],o,w,xs,h=>⟨xs,h,rfl,⟨rfl,rfl,rfl,Nat.le_refl _,fun _ _ _=>rfl⟩⟩
 |v::r,o,w,xs,h=>by
  obtain⟨h1,g1⟩:=World.ownsRow.stored h o v;obtain⟨xs',h2,h3,g2⟩:=SY r (o+1) _ _ h1;refine⟨xs',h2,?_,⟨g2.os.trans g1.os,g2.tape.trans g1.tape,g2.output.trans g1.output,Nat.le_trans g1.size g2.size,fun k hk hne=>(g2.block k (Nat.lt_of_lt_of_le hk g1.size) hne).trans (g1.block k hk hne)⟩⟩;have:=congrArg (List.take o) h3;rw[List.take_take,List.take_take,Nat.min_eq_left (by omega)]at this;rw[this,List.take_set_of_le (by omega)]
theorem YW{m:Nat}{xs ys:List Value}(h:w.ownsRow B e sz (.slice q n co) n xs)(hm:m<=n)(hy:ys=xs.take (m*sz)):w.ownsRow B e sz (.slice q m co) m ys:=by
 rcases h.2 with⟨hv,_⟩|⟨g',cap,cur,hv,hB,hgg,h1,h2,h3,h4⟩
 ·cases hv
 ·cases hv;have hmn:m*sz<=n*sz:=Nat.mul_le_mul_right _ hm;refine⟨by rw[hy,List.length_take,h.1];omega,.inr ⟨_,_,cur,rfl,hB,hgg,by omega,h2,h3,?_⟩⟩;rw[hy,<-h4,List.take_take,Nat.min_eq_left hmn]
theorem Se(w:World)(b o n c:Nat)(hn:0<n)(hc:∀j,j<n*10->(w.cell? ⟨b,o+j,none⟩).isSome=true)(hf:∀j,j<n*10->w.frozen? ⟨b,o+j,none⟩=false):
 ∃vs,∀ty,(Builtin.clear_ #[25] ty #[.slice (some ⟨b,o,none⟩) n c]).run prog w= .ok (.tuple #[]) (w.setCells b o vs):=by
 have n1:Na #[.int .i64 0,.int .i64 0,.int .i64 0,.int .i64 0,.slice none 0 0,.string ⟨#[]⟩,.slice none 0 0,.slice none 0 0,.int .i64 0,.slice none 0 0]:=⟨⟩;have hl:(Builtin.zeroCells n1 n).toList.length=n*10:=by
  simp[Builtin.zeroCells]
 have h1:∀v∈(Builtin.zeroCells n1 n).toList,v.oneCell'=true:=fun v hv=>by
  simp only[Builtin.zeroCells,Array.toList_map,List.mem_map]at hv;obtain⟨i,_,rfl⟩:=hv;have hi:i%10<10:=Nat.mod_lt _ (by decide);show(#[Value.int .i64 0,.int .i64 0,.int .i64 0,.int .i64 0,.slice none 0 0,.string ⟨#[]⟩,.slice none 0 0,.slice none 0 0,.int .i64 0,.slice none 0 0][i%10]!).oneCell'=true;generalize i%10=k at *;rcases k with _|_|_|_|_|_|_|_|_|_|k;all_goals first|rfl|omega
 have hst:=run_storeCells_cells (P:=prog) b o _ 0 w (by rw[hl];simpa using hc) (by rw[hl];simpa using hf) h1;rw[Nat.add_zero]at hst;have hu:∀w,(underlying 25).run prog w= .ok (.slice 63) w:=fun w=>by simp[underlying,go_sem,underlying25]
 clear hl h1 hc hf;obtain⟨m,rfl⟩:∃m,n=m+1:=⟨n-1,by omega⟩;refine⟨(Builtin.zeroCells n1 (m+1)).toList,fun ty=>?_⟩;simp[Builtin.clear_,go_sem,hu,zeroValue63,Value.cells,hst]
theorem Tn(o:Ab)(vb ga:Nat)(G:AI)(w:World)(hv:w.cell? ⟨vb,ga,none⟩=some (.slice G.a G.n G.k))(hl:vb<w.heap.size)(hG:G.at w):
 Calls prog 116 #[.agg o,.pointer (some ⟨vb,ga,none⟩)] w fun e w'=>e= .returned (.bool (hasB G.n G.h o.id))/\Below w w w':=by
 have b0:Below w w (w.alloc (.cells o 63)):=Be w _;have v0:=(b0.cell (p:=⟨vb,ga,none⟩) hl).trans hv;have CT:=hid (Iz G.a G.n G.k G.h o.id _ hG.1 (hG.below b0).2);have B0:=hid b0;clear b0 hG hv;go_enter func116,ntmps116
 go_wp2_with fail
 refine CT.out.mono ?_;rintro e w1 ⟨rfl,rfl⟩;go_wp2;go_ret;exact⟨rfl,B0⟩
theorem UI(B q co vb:Nat)(l:List Ab)(G:AI)(w:World)(h:AO w B (.slice q l.length co) l)(hn:l.length<=1048576)(hv:w.cell? ⟨vb,0,none⟩=some (.slice G.a G.n G.k))(hl:vb<w.heap.size)(hG:G.at w):
 Calls prog 138 #[.slice q l.length co,.func (.func 116) #[] #[.pointer vb]] w fun e w'=>Below w w w'/\((e= .returned (.int .i64 (-1))/\∀x∈l,hasB G.n G.h x.id=false)∨∃i,i<l.length/\e= .returned (.int .i64 i)/\(∀x∈l.take i,hasB G.n G.h x.id=false)/\hasB G.n G.h (Aa l i).id=true):=by
 have HO:=hid h;have HG:=hid hG;have HV:=hid hv;clear h hG hv;go_enter func138,ntmps138
 go_wp2;go_loopw [8] (fun i wr=>∃k:Nat,k<=l.length/\i= .int .i64 k/\Hid (Below w w wr)/\Hid (∀x∈l.take k,hasB G.n G.h x.id=false)) (fun i _=>l.length-(intOf i).toNat)
 case atStart=>exact⟨0,Nat.zero_le _,rfl,hid (Below.refl _ _),hid (fun x hx=>by simp at hx)⟩
 case round=>
  obtain⟨k,hk,rfl,BW,NG⟩:=hrel;by_cases hlt:k<l.length
  ·have i1:(k:Int)<(l.length:Int):=(by omega);have i0:(0:Int)<=(k:Int):=(by omega);obtain⟨CC,ql,_⟩:=AO.cells (AO.below HO BW) hlt;have q0:wr.cell? ⟨q,k*10,none⟩=some (.int .i64 l[k].id):=CC.c0;have q1:wr.cell? ⟨q,k*10+1,none⟩=some (.int .i64 l[k].kind):=CC.c1;have q2:wr.cell? ⟨q,k*10+2,none⟩=some (.int .i64 l[k].up):=CC.c2;have q3:wr.cell? ⟨q,k*10+3,none⟩=some (.int .i64 l[k].b1):=CC.c3;have q4:wr.cell? ⟨q,k*10+4,none⟩=some (.slice l[k].c1.a l[k].c1.n l[k].c1.k):=CC.c4;have q5:wr.cell? ⟨q,k*10+5,none⟩=some (.string l[k].data):=CC.c5;have q6:wr.cell? ⟨q,k*10+6,none⟩=some (.slice l[k].jA.a l[k].jA.n l[k].jA.k):=CC.c6;have q7:wr.cell? ⟨q,k*10+7,none⟩=some (.slice l[k].own.a l[k].own.n l[k].own.k):=CC.c7;have q8:wr.cell? ⟨q,k*10+8,none⟩=some (.int .i64 l[k].b2):=CC.c8;have q9:wr.cell? ⟨q,k*10+9,none⟩=some (.slice l[k].c2.a l[k].c2.n l[k].c2.k):=CC.c9;have GA:=hid (Tn l[k] vb 0 G wr ((BW.out.cell (p:=⟨vb,0,none⟩) hl).trans HV) (Nat.lt_of_lt_of_le hl BW.out.size) (HG.out.below BW));clear CC;go_wp2_with fail
   refine GA.out.mono ?_;rintro e w1 ⟨rfl,b1⟩;have B1:=hid (Af BW b1);clear b1 q0 q1 q2 q3 q4 q5 q6 q7 q8 q9 GA;cases hg:hasB G.n G.h l[k].id with
   |true=>
    go_wp2;go_ret;refine⟨B1,.inr ⟨k,hlt,rfl,NG,?_⟩⟩;rw[AM hlt];exact hg
   |false=>
    go_wp2;go_roundw;case rel=>
     refine⟨k+1,by omega,by go_num,B1,hid (fun x hx=>?_)⟩;rw[List.take_add_one,List.getElem?_eq_getElem hlt]at hx;rcases List.mem_append.1 hx with hx|hx
     ·exact NG.out x hx
     ·simp at hx;rw[hx];exact hg
    case measure=>simp[intOf];omega
  ·have i1:¬(k:Int)<(l.length:Int):=(by omega);go_wp2;go_ret;refine⟨BW,.inl ⟨rfl,fun x hx=>NG x ?_⟩⟩;rw[List.take_of_length_le (by omega)];exact hx
end Go.Proofs.YtefoofaocbjdoaaGreatDoor
