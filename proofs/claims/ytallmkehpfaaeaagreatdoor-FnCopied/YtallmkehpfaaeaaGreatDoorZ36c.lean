import Derived.Test.YtallmkehpfaaeaaGreatDoorZ33c
import Derived.Test.YtallmkehpfaaeaaGreatDoorZ35c
import Derived.Test.YtallmkehpfaaeaaGreatDoorNU1c
import Derived.Test.YtallmkehpfaaeaaGreatDoorZ5c
import Derived.Test.YtallmkehpfaaeaaGreatDoorZ12c
import Derived.Test.YtallmkehpfaaeaaGreatDoorZ34c
import Derived.Test.YtallmkehpfaaeaaGreatDoorNE2c
import Derived.Test.YtallmkehpfaaeaaGreatDoorZ27c
import Derived.Test.YtallmkehpfaaeaaGreatDoorZ29c
import Derived.Test.YtallmkehpfaaeaaGreatDoorZ15c
import Derived.Test.YtallmkehpfaaeaaGreatDoorND2c
import Derived.Lib.SliceRun
set_option maxRecDepth 100000
set_option maxHeartbeats 16000000
namespace Go.Proofs.YtallmkehpfaaeaaGreatDoor
open Go Go.RowKit Go.Deep Go.Maps Go.BigFrame Go.Shelf Go.Proofs.Tryz
def Hr(l:List Int)(i:Nat):ByteArray:=⟨(Dj (AJ l i).toNat).toArray⟩
theorem TA(sep:List UInt8)(r:List (List UInt8))(x:List UInt8):Lib.joinTail sep (r++[x])=Lib.joinTail sep r++(sep++x):=by simp[Lib.joinTail]
theorem Uv{r:List (List UInt8)}(h:r≠[])(x sep:List UInt8):Lib.join (r++[x]) sep=Lib.join r sep++sep++x:=by
 cases r with
 |nil=>exact absurd rfl h
 |cons y r=>rw[List.cons_append,Lib.join_cons,Lib.join_cons,TA];simp
theorem QH(l:List Int):∀n,(Od (AJ l) n).data.toList=Lib.join (((List.range n).map (Hr l)).map (·.data.toList)) [32]
 |0=>rfl
 |n+1=>by
  have ih:=QH l n;rw[List.range_succ,List.map_append,List.map_append];by_cases h:0<n
  ·rw[show([n].map (Hr l)).map (·.data.toList)=[Dj (AJ l n).toNat] from by simp[Hr]];rw[Uv (by simp;omega),<-ih];simp[Od,h]
  ·have e:n=0:=(by omega);subst e;simp[Od,Hr,Lib.join,List.intercalate]
theorem own_below{w w':World}{B e size n:Nat}{v:Value}{xs:List Value}(h:w.ownsRow B e size v n xs)(hb:Below w w w'):w'.ownsRow B e size v n xs:=by
 refine⟨h.1,?_⟩;rcases h.2 with h2|⟨g,cap,cur,hv,h1,h2,h3,h4,h5,h6⟩
 ·exact .inl h2
 ·refine .inr ⟨g,cap,cur,hv,h1,?_,h3,h4,h5,h6⟩;rw[hb.block g (by rcases Nat.lt_or_ge g w with h|h;exact h;simp[Array.getElem?_eq_none h]at h2)];exact h2
theorem VN{x:Int}(h:x.toNat<=1000000):(⟨(Dj x.toNat).toArray⟩:ByteArray).size<=1000001:=by
 have h1:=Jh x.toNat;show(Dj x.toNat).toArray.size<=_;simp;omega
theorem TE(a:Option Addr)(k:Nat)(x:Value)(w:World):Calls prog 177 #[.slice a 0 k,x] w fun e w'=>e= .returned (.string ⟨#[]⟩)/\Below w w w':=by
 go_enter func177,ntmps177
 go_wp2;go_ret;exact⟨rfl,Below.refl _ _⟩
theorem VJ(w:World)(B P:Nat)(s:Al)(g ca q co:Nat)(lt:List Ae)(lo:List Ab)(t c C:Nat)(nb:Nat->Nat)(kv:Nat->Value)(K:Nat->List Int)(h:F7 w B P s g ca q co lt lo t (.map (some c)))(hN:Dw w C c lo.length (fun i=>(Aa lo i).id) q 0 nb kv K)(hB:B<=w.heap.size)(u:Nat)(hu:u<lo.length)(O:Ab)(hO:O=lo[u])(hd:∀x∈lo,x.data.size<=maxLen)(hf:Ge lo O.id=some u)(hi:(Lit.int .i64 O.id).wf=true)(KL:List Int)(hK:K u=KL)(hn:KL.length<=1000)(hx:∀x∈KL,0<=x/\x<=1000000)(tab:SI w):
 Calls prog 153 #[.pointer (some ⟨P,0,none⟩),.agg #[.pointer (some ⟨q,u*10,none⟩)]] w fun e w'=>e= .returned (.string (Od (AJ KL) KL.length))/\F7 w' B P s g ca q co lt lo t (.map (some c))/\Below B w w':=by
 obtain⟨CO,ql⟩:=h.st.cell10 hu hd;rw[<-hO]at CO;have n2:Nw (w.alloc (.cells #[.pointer (some ⟨q,u*10,none⟩)] 203)):=⟨⟩;have b0:Below w w n2:=(Below.refl _ w).alloc (Nat.le_refl _) _;have c0:(n2:World).cell? ⟨w,0,none⟩=some (.pointer (some ⟨q,u*10,none⟩)):=by go_simp
 have ow:=hN.own u hu;rw[hK]at ow;obtain⟨ka,kc,ekv⟩:=Au.form ow;have ND:=hN.below b0.drew;have bk:=ND.blk u hu;rw[Nat.zero_add,ekv]at bk;have LK:=ND.map.look hi;rw[show Bb (fun i=>(Aa lo i).id) lo.length O.id=some u from hf]at LK;simp only[Option.map_some]at LK;obtain⟨n0,n1⟩:=bk.two;obtain⟨_,_,_,_,c13⟩:=(h.wk.below b0.drew).work;have z0:(n2:World).drew.cell? ⟨w,0,none⟩=some (.pointer (some ⟨q,u*10,none⟩)):=c0;have z1:(n2:World).drew.cell? ⟨q,u*10,none⟩=some (.int .i64 O.id):=(CO.below ql b0.drew).c0;have HW:=hid h;have OW:Hid (Au w C (.slice ka KL.length kc) KL):=hid (by rw[<-ekv];exact ow);have HX:=hid hx;have TB:=hid tab;have B0:=hid b0.drew;clear h hN hO CO ow ekv ND hK hx tab hf c0 b0 bk hd;go_enter func153,ntmps153
 go_upto_region 2 with fail
 go_cut[21,22,23] from 8 (fun x y z wc=>x= .slice ka KL.length kc/\y= .int .i64 KL.length/\z= .int .i64 0/\wc=(n2:World).drew)
 case first=>
  go_region_law fail
  all_goals(
   go_wp2_with fail
   go_meet;case rel=>exact⟨rfl,rfl,rfl,rfl⟩)
 case rest=>
  obtain⟨rfl,rfl,rfl,rfl⟩:=hcut;clear n0 n1 LK c13 z0 z1;go_wp2;go_loopw [5,23] (fun v i wr=>∃(j:Nat) (a:Option Addr) (cc:Nat),j<=KL.length/\i= .int .i64 j/\v= .slice a j cc/\Hid (Et wr w (.slice a j cc) j (Hr KL))/\Hid (Below w w wr)) (fun _ i _=>KL.length-(intOf i).toNat)
  case atStart=>exact⟨0,none,0,Nat.zero_le _,rfl,rfl,hid (World.ownsRow_nil _ _ _ _),B0⟩
  case round=>
   obtain⟨j,a,cc,hj,rfl,rfl,OS,BW⟩:=hrel;by_cases hlt:j<KL.length
   ·have i1:(j:Int)<(KL.length:Int):=(by omega);have i0:(0:Int)<=(j:Int):=(by omega);obtain⟨kb,ko,ea,kl,kcc⟩:=(Au.lies OW).ints (by omega);have kcell:=(BW.out.cell (p:=⟨kb,ko+j,none⟩) kl).trans (kcc j hlt);rw[ea];have xm:AJ KL j∈KL:=(by unfold AJ;rw[List.getD_eq_getElem?_getD,List.getElem?_eq_getElem hlt];exact List.getElem_mem hlt);have xb:=HX.out _ xm;have DC:=hid (QJ (AJ KL j) wr xb.1 (by omega) (TB.out.below BW));have SZ:Hid ((Hr KL j).size<=maxLen):=hid (by have:=VN (x:=AJ KL j) (by omega);show(⟨(Dj (AJ KL j).toNat).toArray⟩:ByteArray).size<=maxLen;unfold maxLen;omega);clear kcc xm;go_wp2_with fail
    refine DC.out.mono ?_;rintro e w1 ⟨rfl,b1⟩;have O1:=hid (own_below OS b1);have B1:=hid (Ag BW b1);have BA:=(Below.refl _ w1).alloc (Nat.le_refl _) (.cells #[.string ⟨(Dj (AJ KL j).toNat).toArray⟩] 9);have O2:=hid (own_below O1 BA);have B2:=hid (Ag B1 BA);have L2:=hid (Ia w1 ⟨(Dj (AJ KL j).toNat).toArray⟩);have s2:=B2.out.size;clear b1 BA DC kcell;go_wp2_with(refine Bf underlying45 Tryz.info9 rfl (by omega) _ rfl _ _ rfl w (.slice a j cc) j (Hz j (Hr KL)) rfl O2 (some ⟨w1,0,none⟩) 1 1 [.string ⟨(Dj (AJ KL j).toNat).toArray⟩] rfl rfl L2 (fun u hu=>by simp at hu;subst hu;rfl) (by omega) (by omega) s2 ?_;intro a3 c3 w3 o3 g3)
    have O3:Hid (Et w3 w (.slice a3 (j+1) c3) (j+1) (Hr KL)):=hid (by
     have e:Hz (j+1) (Hr KL)=Hz j (Hr KL)++[.string ⟨(Dj (AJ KL j).toNat).toArray⟩]:=(by unfold Hz;rw[List.range_succ];simp[Hr]);rw[<-e]at o3;exact o3)
    have B3:Hid (Below w w w3):=hid (B2.out.trans (below_grown g3 B2.out.size (fun j e=>(World.ownsRow.lt O2 j e).1)));clear o3 g3;go_roundw;case rel=>exact⟨j+1,a3,c3,by omega,by go_num,rfl,O3,B3⟩
    case measure=>simp[intOf];omega
   ·have ej:j=KL.length:=(by omega);have i1:¬(j:Int)<(KL.length:Int):=(by omega);subst ej;by_cases h0:0<KL.length
    ·obtain⟨gb,mm,F,ea,hb1,hb2,hr⟩:=Cx OS h0;subst ea;obtain⟨b',off,e',hlt',hcc⟩:=Bh.own OS h0;cases e';have lw:=hr.lt;have JS:((Od (AJ KL) KL.length).size)<=KL.length*1000002:=OX (fun i hi=>by
      have hi':=HX.out (AJ KL i) (by unfold AJ;rw[List.getD_eq_getElem?_getD,List.getElem?_eq_getElem hi];exact List.getElem_mem hi);omega)
     have JJ:=hid (QH KL KL.length);have JN:Hid (Calls prog 177 #[.slice (some ⟨gb,0,none⟩) KL.length cc,.string ⟨#[32]⟩] wr fun e w'=>e= .returned (.string (Od (AJ KL) KL.length))/\Below wr wr w'):=hid (by
      have el:((List.range KL.length).map (Hr KL)).length=KL.length:=(by simp);have jl:(Lib.join (((List.range KL.length).map (Hr KL)).map (·.data.toList)) [32]).length=(Od (AJ KL) KL.length).size:=by
       rw[<-JJ.out];exact Array.length_toList
      have:=Tryz.strings_Join gb 0 cc ((List.range KL.length).map (Hr KL)) ⟨#[32]⟩ wr (fun i x hx'=>hcc i (.string x) (by
       have hil:i<KL.length:=by
        have:=(List.getElem?_eq_some_iff.1 hx').1;simpa using this
       simp[hil]at hx';subst hx';simp[Hz,hil])) lw (by rw[el];omega) (by rw[el];exact(Ek OS).1) (by
        show(Lib.join (((List.range KL.length).map (Hr KL)).map (·.data.toList)) [32]).length<=_;rw[jl];omega)
      rw[el]at this;refine this.mono ?_;rintro e w' ⟨rfl,hb⟩;refine⟨?_,hb⟩;have e2:(⟨(Lib.join (((List.range KL.length).map (Hr KL)).map (·.data.toList)) (⟨#[32]⟩:ByteArray).data.toList).toArray⟩:ByteArray)=Od (AJ KL) KL.length:=by
       have:(Lib.join (((List.range KL.length).map (Hr KL)).map (·.data.toList)) (⟨#[32]⟩:ByteArray).data.toList)=(Od (AJ KL) KL.length).data.toList:=JJ.out.symm;rw[this]
      rw[e2])
     clear hcc hr lw JS;go_wp2_with fail
     refine JN.out.mono ?_;rintro e w1 ⟨rfl,b1⟩;have B1:=hid (Ag BW b1);clear b1;go_wp2;go_ret;exact⟨rfl,HW.out.below B1,B1.out.mono hB⟩
    ·have e0:KL=[]:=List.eq_nil_of_length_eq_zero (by omega);subst e0;have SH:=OS.out.2;have en:a=none∨∃gb,a=some ⟨gb,0,none⟩:=by
      rcases SH with⟨hv,_⟩|⟨gb,cap,cur,hv,_⟩
      ·left;cases hv;rfl
      ·right;cases hv;exact⟨gb,rfl⟩
     clear SH;have JN:=hid (TE a cc (.string ⟨#[32]⟩) wr);go_wp2_with fail
     refine JN.out.mono ?_;rintro e w1 ⟨rfl,b1⟩;have B1:=hid (Ag BW b1);clear b1;go_wp2;go_ret;exact⟨rfl,HW.out.below B1,B1.out.mono hB⟩
theorem RJ(k:Int)(w:World):Calls prog 150 #[.int .i64 k] w fun e w'=>e= .returned (.bool (k==6||k==9||k==10))/\Below w w w':=by
 by_cases h0:k=6
 ·subst h0;go_enter func150,ntmps150
  go_wp2;go_ret;exact⟨by simp,Below.refl _ _⟩
 ·have b0:(k==6)=false:=by simpa using h0
  by_cases h1:k=9
  ·subst h1;go_enter func150,ntmps150
   go_wp2;go_ret;exact⟨by simp,Below.refl _ _⟩
  ·have b1:(k==9)=false:=(by simpa using h1);by_cases h2:k=10
   ·subst h2;go_enter func150,ntmps150
    go_wp2;go_ret;exact⟨by simp,Below.refl _ _⟩
   ·have b2:(k==10)=false:=(by simpa using h2);go_enter func150,ntmps150
    go_wp2;go_ret;exact⟨by simp[h0,h1,h2],Below.refl _ _⟩
theorem Jf(v:Value)(k:Int)(w:World):Calls prog 250 #[.agg #[v],.int .i64 k] w fun e w'=>e= .returned (.bool (k==6||k==7||k==8))/\Below w w w':=by
 by_cases h0:k=6
 ·subst h0;go_enter func250,ntmps250
  go_wp2;go_ret;exact⟨by simp,(Below.refl _ w).alloc (Nat.le_refl _) _⟩
 ·have b0:(k==6)=false:=by simpa using h0
  by_cases h1:k=7
  ·subst h1;go_enter func250,ntmps250
   go_wp2;go_ret;exact⟨by simp,(Below.refl _ w).alloc (Nat.le_refl _) _⟩
  ·have b1:(k==7)=false:=(by simpa using h1);by_cases h2:k=8
   ·subst h2;go_enter func250,ntmps250
    go_wp2;go_ret;exact⟨by simp,(Below.refl _ w).alloc (Nat.le_refl _) _⟩
   ·have b2:(k==8)=false:=(by simpa using h2);go_enter func250,ntmps250
    go_wp2;go_ret;exact⟨by simp[h0,h1,h2],(Below.refl _ w).alloc (Nat.le_refl _) _⟩
theorem KQ(v:Value)(k:Int)(w:World):Calls prog 251 #[.agg #[v],.int .i64 k] w fun e w'=>e= .returned (.bool (k==9||k==10))/\Below w w w':=by
 by_cases h0:k=9
 ·subst h0;go_enter func251,ntmps251
  go_wp2;go_ret;exact⟨by simp,(Below.refl _ w).alloc (Nat.le_refl _) _⟩
 ·have b0:(k==9)=false:=by simpa using h0
  by_cases h1:k=10
  ·subst h1;go_enter func251,ntmps251
   go_wp2;go_ret;exact⟨by simp,(Below.refl _ w).alloc (Nat.le_refl _) _⟩
  ·have b1:(k==10)=false:=(by simpa using h1);go_enter func251,ntmps251
   go_wp2;go_ret;exact⟨by simp[h0,h1],(Below.refl _ w).alloc (Nat.le_refl _) _⟩
theorem MN(v:Value)(k:Int)(w:World):Calls prog 252 #[.agg #[v],.int .i64 k] w fun e w'=>e= .returned (.bool (k==15))/\Below w w w':=by
 by_cases h0:k=15
 ·subst h0;go_enter func252,ntmps252
  go_wp2;go_ret;exact⟨by simp,(Below.refl _ w).alloc (Nat.le_refl _) _⟩
 ·have b0:(k==15)=false:=by simpa using h0
  go_enter func252,ntmps252
  go_wp2;go_ret;exact⟨by simp[h0],(Below.refl _ w).alloc (Nat.le_refl _) _⟩
theorem Lk(v:Value)(k:Int)(w:World):Calls prog 253 #[.agg #[v],.int .i64 k] w fun e w'=>e= .returned (.bool (k==13))/\Below w w w':=by
 by_cases h0:k=13
 ·subst h0;go_enter func253,ntmps253
  go_wp2;go_ret;exact⟨by simp,(Below.refl _ w).alloc (Nat.le_refl _) _⟩
 ·have b0:(k==13)=false:=by simpa using h0
  go_enter func253,ntmps253
  go_wp2;go_ret;exact⟨by simp[h0],(Below.refl _ w).alloc (Nat.le_refl _) _⟩
theorem Ka(d:Array Int)(hs:∀i j,i<=j->j<d.size->d[i]!<=d[j]!):∀m,m<=d.size->(Lib.compactUpTo d m).Pairwise (· <·)/\∀x,x∈Lib.compactUpTo d m↔∃i,i<m/\x=d[i]!
 |0,_=>⟨by simp[Lib.compactUpTo],by simp[Lib.compactUpTo]⟩
 |m+1,hm=>by
  obtain⟨h1,h2⟩:=Ka d hs m (by omega);rw[Lib.compactUpTo_succ];by_cases h0:m=0
  ·subst h0;simp[Lib.compactUpTo,Lib.keeps]
  ·by_cases he:d[m]! =d[m-1]!
   ·rw[Lib.keeps_neg (by omega) he];simp only[Bool.false_eq_true,if_false,List.append_nil];refine⟨h1,fun x=>?_⟩;rw[h2];constructor
    ·rintro⟨i,hi,e⟩;exact⟨i,by omega,e⟩
    ·rintro⟨i,hi,e⟩;by_cases e1:i=m
     ·subst e1;exact⟨i-1,by omega,by rw[e,he]⟩
     ·exact⟨i,by omega,e⟩
   ·rw[Lib.keeps_pos he];simp only[if_true];refine⟨?_,fun x=>?_⟩
    ·rw[List.pairwise_append];refine⟨h1,by simp,fun a ha b hb=>?_⟩;obtain⟨i,hi,rfl⟩:=(h2 a).1 ha;simp at hb;subst hb;have a1:=hs i (m-1) (by omega) (by omega);have a2:=hs (m-1) m (by omega) (by omega);omega
    ·rw[List.mem_append,h2];simp only[List.mem_singleton];constructor
     ·rintro(⟨i,hi,e⟩|e)
      ·exact⟨i,by omega,e⟩
      ·exact⟨m,by omega,e⟩
     ·rintro⟨i,hi,e⟩;by_cases e1:i=m
      ·subst e1;exact .inr e
      ·exact .inl ⟨i,by omega,e⟩
theorem UP(l:List Int):(Cj l).Pairwise (· <=·):=by
 have:=List.pairwise_mergeSort (le:=fun(x y:Int)=>decide (x<=y)) (fun a b c h1 h2=>by simp at *;omega) (fun a b=>by simp;omega) l;exact this.imp (fun h=>by simpa using h)
theorem Oh(l:List Int):(Lib.compact (Cj l)).Pairwise (· <·)/\∀x,x∈Lib.compact (Cj l)↔x∈l:=by
 have h:=Ka (Cj l).toArray (fun i j hij hj=>by
  simp only[List.size_toArray]at hj;by_cases e:i=j
  ·subst e;exact Int.le_refl _
  ·have:=List.pairwise_iff_getElem.1 (UP l) i j (by omega) hj (by omega);simpa[getElem!_pos,hj,show i<(Cj l).length by omega]using this) (Cj l).length (by simp)
 refine⟨h.1,fun x=>?_⟩;unfold Lib.compact;rw[h.2,<-JE (l:=l)];constructor
 ·rintro⟨i,hi,rfl⟩;have:(Cj l).toArray[i]! =(Cj l)[i]:=by simp[getElem!_pos,hi]
  rw[this];exact List.getElem_mem hi
 ·intro hx;obtain⟨i,hi,rfl⟩:=List.getElem_of_mem hx;exact⟨i,hi,by simp[getElem!_pos,hi]⟩
theorem Kg{L:List Int}{h:Nat->Int}(hL:L.Pairwise (· <·)):∀q,(Dv L h q).Pairwise (· <·)
 |0=>hL
 |q+1=>Is (Kg hL q)
theorem Nq{L:List Int}{h:Nat->Int}(x:Int):∀q,x∈Dv L h q↔x∈L∨∃i,i<q/\x=h i
 |0=>by simp[Dv]
 |q+1=>by
  simp only[Dv];rw[SE,Nq x q];constructor
  ·rintro((a|⟨i,hi,e⟩)|e)
   ·exact .inl a
   ·exact .inr ⟨i,by omega,e⟩
   ·exact .inr ⟨q,by omega,e⟩
  ·rintro(a|⟨i,hi,e⟩)
   ·exact .inl (.inl a)
   ·by_cases e1:i=q
    ·subst e1;exact .inr e
    ·exact .inl (.inr ⟨i,by omega,e⟩)
theorem P6{L:List Int}(hL:L.Pairwise (· <·))(h:Nat->Int)(n:Nat):Lib.compact (Cj (L++(List.range n).map h))=Dv L h n:=by
 obtain⟨a,b⟩:=Oh (L++(List.range n).map h);refine LL a (Kg hL n) (fun x=>?_);rw[b,Nq,List.mem_append,List.mem_map];simp only[List.mem_range];constructor
 ·rintro(c|⟨i,hi,e⟩)
  ·exact .inl c
  ·exact .inr ⟨i,hi,e.symm⟩
 ·rintro(c|⟨i,hi,e⟩)
  ·exact .inl c
  ·exact .inr ⟨i,hi,e.symm⟩
theorem Ws{b:Int}{c:As}{o:AM}{b':Int}{c':As}{W:World}(hc:c.at W)(ho:o.at W)(hc':c'.at W)(l1:AO b c.n c.f c.g=true)(l2:BH o.n o.h=true)(l3:AO b' c'.n c'.f c'.g=true):
 Calls prog 23 #[.agg #[.int .i64 b,.slice c.a c.n c.k],.slice o.a o.n o.k,.agg #[.int .i64 b',.slice c'.a c'.n c'.k]] W fun e w'=>e= .returned (.bool (Ff b c o b' c'))/\Below W W w':=by
 have h:=Gx b c.a c.n c.k c.f c.g o.a o.n o.k o.h b' c'.a c'.n c'.k c'.f c'.g W hc.1 hc'.1 ho.1 hc.2 hc'.2 ho.2;refine h.mono ?_;rintro e w' ⟨rfl,hb⟩;refine⟨?_,hb⟩;unfold Ff Cq;simp[l1,l2,l3]
theorem QM{X:Ae}(h:MH X):Dg X.id X.made X.b1 X.c1.n X.c1.f X.c1.g X.b2 X.c2.n X.c2.f X.c2.g X.own.n X.own.h=true:=GU.2 h
theorem XY{X:Ae}{b:Int}{c:As}{W:World}(hX:X.at W)(hc:c.at W)(hF:MH X)(l:AO b c.n c.f c.g=true):
 Calls prog 24 #[.agg #[X.id,X.b1,.slice X.c1.a X.c1.n X.c1.k,X.b2,.slice X.c2.a X.c2.n X.c2.k,.slice X.own.a X.own.n X.own.k,X.made],.agg #[.int .i64 b,.slice c.a c.n c.k]] W fun e w'=>e= .returned (.bool (Gh X b c))/\Below W W w':=by
 refine(Jc X.id X.made X.b1 X.c1.a X.c1.n X.c1.k X.c1.f X.c1.g X.b2 X.c2.a X.c2.n X.c2.k X.c2.f X.c2.g X.own.a X.own.n X.own.k X.own.h b c.a c.n c.k c.f c.g W hX.1.1 hX.2.1.1 hX.2.2.1 hX.1.2 hX.2.1.2 hX.2.2.2 hc.1 hc.2).mono ?_;rintro e w' ⟨rfl,hb⟩;refine⟨?_,hb⟩;unfold Kl Gh;rw[QM hF,l];simp
theorem Uo{X:Ae}{b:Int}{c:As}{W:World}(hX:X.at W)(hc:c.at W)(hF:MH X)(l:AO b c.n c.f c.g=true):
 Calls prog 22 #[.agg #[X.id,X.b1,.slice X.c1.a X.c1.n X.c1.k,X.b2,.slice X.c2.a X.c2.n X.c2.k,.slice X.own.a X.own.n X.own.k,X.made],.agg #[.int .i64 b,.slice c.a c.n c.k]] W fun e w'=>e= .returned (.bool (Ap X b c))/\Below W W w':=by
 refine(Kz X.id X.made X.b1 X.c1.a X.c1.n X.c1.k X.c1.f X.c1.g X.b2 X.c2.a X.c2.n X.c2.k X.c2.f X.c2.g X.own.a X.own.n X.own.k X.own.h b c.a c.n c.k c.f c.g W hX.1.1 hX.2.1.1 hX.2.2.1 hX.1.2 hX.2.1.2 hX.2.2.2 hc.1 hc.2).mono ?_;rintro e w' ⟨rfl,hb⟩;refine⟨?_,hb⟩;unfold Jw Kl Mz Ap Gh;rw[QM hF,l];simp
theorem X6{n:Nat}{h:Nat->Int}(e:BH n h=true):∀i j,i<j->j<n->h i<h j:=by
 obtain⟨_,ha⟩:=UC e;have one:∀j,0<j->j<n->h (j-1)<h j:=fun j h0 hj=>by
  have:=ha j hj;unfold Do at this;simp only[Bool.and_eq_true,Bool.or_eq_true,beq_iff_eq,decide_eq_true_eq]at this;rcases this.2 with h|h
  ·omega
  ·exact h
 intro i j hij hj;induction j with
 |zero=>omega
 |succ j ih=>
  have h1:=one (j+1) (by omega) hj;simp only[Nat.add_sub_cancel]at h1;by_cases e:i=j
  ·subst e;exact h1
  ·have:=ih (by omega) (by omega);omega
theorem UJ{n:Nat}{h:Nat->Int}(e:BH n h=true):((List.range n).map h).Pairwise (· <·):=by
 rw[List.pairwise_iff_getElem];intro i j hi hj hij;simp only[List.length_map,List.length_range]at hi hj;simpa using X6 e i j hij hj
structure Env(E:Nat->Addr)(w:World)(B P:Nat)(s:Al)(g ca q co:Nat)(lt:List Ae)(lo:List Ab)(t c C:Nat)(nb:Nat->Nat)(kv:Nat->Value)(K:Nat->List Int)(X:Ae):Prop where
 h:F7 w B P s g ca q co lt lo t (.map (some c))
 n:Dw w C c lo.length (fun i=>(Aa lo i).id) q 0 nb kv K
 e:Mm w E
 h14:14<=B
 hB:B<=w.heap.size
 ht:t<lt.length
 hX:X=lt[t]
 hs:∀W,Below B w W->s.at W
 so:s.ok=true
 ok:okL lt lo=true
 tab:SI w
 kid:∀u,u<lo.length->K u=Iy (Aa lo) (Aa lo u).id lo.length
 ti:Js lo
theorem Qr{x:Int}(h:0<=x/\x<=1000000):(Lit.int .i64 x).wf=true:=by
 have e1:IntKind.i64.min= -9223372036854775808:=by decide
 have e2:IntKind.i64.max=9223372036854775807:=by decide
 simp only[Lit.wf,Bool.and_eq_true,decide_eq_true_eq,e1,e2];omega
theorem Gl{lo:List Ab}{u:Nat}(h:u<lo.length):Aa lo u∈lo:=by rw[AH h];exact List.getElem_mem h
section
variable {E:Nat->Addr}{w W:World}{B P:Nat}{s:Al}{g ca q co:Nat}{lt:List Ae}{lo:List Ab}{t c C:Nat}{nb:Nat->Nat}{kv:Nat->Value}{K:Nat->List Int}{X:Ae}
theorem SI.low{w w':World}(h:SI w)(hb:Below w w w'):SI w':=h.below hb
theorem Env.below(v:Env E w B P s g ca q co lt lo t c C nb kv K X)(hb:Below w w W):Env E W B P s g ca q co lt lo t c C nb kv K X:=
 ⟨v.h.below hb,v.n.below hb,v.e.below v.h14 (hb.mono v.hB),v.h14,Nat.le_trans v.hB hb.size,v.ht,v.hX,fun W' hW=>v.hs W' ((hb.mono v.hB).trans hW),v.so,v.ok,v.tab.below hb,v.kid,v.ti⟩
theorem Env.thr(v:Env E w B P s g ca q co lt lo t c C nb kv K X):MH X:=by rw[v.hX];exact Fa v.ok _ (List.getElem_mem v.ht)
theorem Env.xat(v:Env E w B P s g ca q co lt lo t c C nb kv K X):X.at w:=by rw[v.hX];exact(v.h.st.tn _ (List.getElem_mem v.ht)).at
theorem Env.oat(v:Env E w B P s g ca q co lt lo t c C nb kv K X){u:Nat}(hu:u<lo.length):(Aa lo u).at w:=by
 rw[AH hu];exact⟨(v.h.st.on _ (List.getElem_mem hu)).1.1,(v.h.st.on _ (List.getElem_mem hu)).2.1.1,(v.h.st.on _ (List.getElem_mem hu)).2.2.1.1,(v.h.st.on _ (List.getElem_mem hu)).2.2.2.1,Cz v.ok _ (List.getElem_mem hu)⟩
theorem Env.obj(v:Env E w B P s g ca q co lt lo t c C nb kv K X){u:Nat}(hu:u<lo.length):KH (Aa lo u):=Ec v.ok _ (Gl hu)
theorem Env.changes(v:Env E w B P s g ca q co lt lo t c C nb kv K X)(p:Nat)(hp:p<lo.length)(W:World)(hb:Below w w W):
 Calls prog 22 #[.agg #[X.id,X.b1,.slice X.c1.a X.c1.n X.c1.k,X.b2,.slice X.c2.a X.c2.n X.c2.k,.slice X.own.a X.own.n X.own.k,X.made],.agg #[.int .i64 (Aa lo p).b1,.slice (Aa lo p).c1.a (Aa lo p).c1.n (Aa lo p).c1.k]] W fun e w'=>e= .returned (.bool (Ap X (Aa lo p).b1 (Aa lo p).c1))/\Below W W w':=
 Uo (v.xat.below hb) ((v.oat hp).1.below hb) v.thr (v.obj hp).l1
theorem Env.sees(v:Env E w B P s g ca q co lt lo t c C nb kv K X)(p:Nat)(hp:p<lo.length)(W:World)(hb:Below w w W):
 Calls prog 24 #[.agg #[X.id,X.b1,.slice X.c1.a X.c1.n X.c1.k,X.b2,.slice X.c2.a X.c2.n X.c2.k,.slice X.own.a X.own.n X.own.k,X.made],.agg #[.int .i64 (Aa lo p).b1,.slice (Aa lo p).c1.a (Aa lo p).c1.n (Aa lo p).c1.k]] W fun e w'=>e= .returned (.bool (Gh X (Aa lo p).b1 (Aa lo p).c1))/\Below W W w':=
 XY (v.xat.below hb) ((v.oat hp).1.below hb) v.thr (v.obj hp).l1
theorem YB{s:Al}(so:s.ok=true):(Lit.int .i64 s.to).wf=true:=by
 refine Qr ?_;unfold Al.ok GD Ef at so;simp only[Bool.and_eq_true]at so;obtain⟨⟨_,h⟩,_⟩:=so;unfold JL at h;split at h
 ·simp only[Dz]at h;omega
 ·have:=beq_iff_eq.1 h;omega
theorem Zm{s:Al}(sf:Sn s):(Lit.int .i64 s.id).wf=true:=by
 refine Qr ?_;have h:=sf.id;unfold JL at h;split at h
 ·simp only[Dz]at h;omega
 ·have:=beq_iff_eq.1 h;omega
end
def KP(w:World)(P:Nat):Prop:=∃(ga qa:Option Addr) (n m ca co:Nat),w.cell? ⟨P,10,none⟩=some (.slice ga n ca)/\w.cell? ⟨P,11,none⟩=some (.slice qa m co)
theorem KP.of{w:World}{P ty:Nat}{s:Al}{g nt ca q no co t:Nat}{m:Value}(h:Ah w P (.cells (Ky s g nt ca q no co t m) ty)):KP w P:=⟨_,_,_,_,_,_,h.work.2.1,h.work.2.2.1⟩
def Jj(E:Nat->Addr)(B P:Nat)(s:Al)(lt:List Ae)(lo:List Ab)(t:Nat)(X:Ae)(m:Value)(w w':World)(tx:ByteArray)(v:Value):Prop:=
 Below B w w'/\((KP w' P/\∃c,Told w' B E v c/\c≠0/\FJ X s lt lo t c ⟨#[]⟩ lt lo)∨(v= .nilIface/\∃(g ca q co:Nat) (lt':List Ae) (lo':List Ab),Pr w' B P s g ca q co lt' lo' t m/\FJ X s lt lo t 0 tx lt' lo'))
section
variable {E:Nat->Addr}{w W:World}{B P:Nat}{s:Al}{g ca q co:Nat}{lt:List Ae}{lo:List Ab}{t c C:Nat}{nb:Nat->Nat}{kv:Nat->Value}{K:Nat->List Int}{X:Ae}
theorem Jj.from{m:Value}{w':World}{tx:ByteArray}{r:Value}(h:Jj E B P s lt lo t X m W w' tx r)(hb:Below B w W):Jj E B P s lt lo t X m w w' tx r:=⟨hb.trans h.1,h.2⟩
theorem Jj.no{m:Value}{w':World}{tx:ByteArray}{r:Value}{c:Int}(kp:KP w' P)(hb:Below B w w')(ht:Told w' B E r c)(hc:c≠0)(ha:FJ X s lt lo t c ⟨#[]⟩ lt lo):Jj E B P s lt lo t X m w w' tx r:=⟨hb,.inl ⟨kp,c,ht,hc,ha⟩⟩
theorem Jj.yes{m:Value}{w':World}{tx:ByteArray}{lt':List Ae}{lo':List Ab}{g' ca' q' co':Nat}(hb:Below B w w')(hs:Pr w' B P s g' ca' q' co' lt' lo' t m)(ha:FJ X s lt lo t 0 tx lt' lo'):Jj E B P s lt lo t X m w w' tx .nilIface:=⟨hb,.inr ⟨rfl,_,_,_,_,_,_,hs,ha⟩⟩
theorem Yo(v:Env E w B P s g ca q co lt lo t c C nb kv K X){u:Nat}(hu:Bi X lo s.id 1=some u)(hk:(s.kind=6/\Ap X (Aa lo u).b1 (Aa lo u).c1=true)∨s.kind=7∨s.kind=8):
 Calls prog 151 #[.pointer (some ⟨P,0,none⟩),.agg #[.pointer (some ⟨q,u*10,none⟩)]] w fun e w'=>∃tx r,e= .returned (.tuple #[.string tx,r])/\Jj E B P s lt lo t X (.map (some c)) w w' tx r:=by
 obtain⟨_,ul,_⟩:=Da hu;have eo:=AH ul;have hd:=Cz v.ok;rcases hk with⟨hk,hc⟩|hk|hk
 ·refine(Jy w B P s g ca q co lt lo t _ v.h v.hB u ul _ eo hd hk).mono ?_;rintro e w' ⟨rfl,h1,h2⟩;exact⟨_,_,rfl,.yes h2 h1.f (.k6 hk (.inr ⟨u,hu,.inr ⟨hc,rfl,rfl,rfl,rfl⟩⟩))⟩
 ·refine(KG w B P s g ca q co lt lo t _ v.h v.hB u ul _ eo hd hk).mono ?_;rintro e w' ⟨rfl,h1,h2⟩;exact⟨_,_,rfl,.yes h2 h1.f (.k7 hk (.inr ⟨u,hu,rfl,rfl,rfl,rfl⟩))⟩
 ·have b0:Below w w (w.alloc (.cells #[.pointer (some ⟨q,u*10,none⟩)] 199)):=(Below.refl _ w).alloc (Nat.le_refl _) _;have V:=v.below b0;have CT:=Q7 E _ B P s g ca q co lt lo t c C nb kv K V.h V.n V.e V.h14 V.hB V.ht X V.hX u ul _ eo hd (YB v.so) (fun p hp W hW=>V.changes p hp W hW);refine(KR w B P s g ca q co lt lo t _ v.h u ul _ eo hd hk _ CT).mono ?_;rintro e w' ⟨r,rfl,c',lo',h1,h2,h3,h4⟩;refine⟨_,r,rfl,?_⟩;have h2':=(b0.mono v.hB).trans h2;rcases h4 with⟨a1,rfl,rfl⟩|⟨p,a1,⟨a2,rfl,rfl⟩|⟨a2,a3,rfl,rfl⟩⟩
  ·exact .no (.of h1.wk) h2' h3 (by decide) (.k8 hk (.inr ⟨u,hu,.inl ⟨a1,rfl,rfl,rfl,rfl⟩⟩))
  ·exact .no (.of h1.wk) h2' h3 (by decide) (.k8 hk (.inr ⟨u,hu,.inr ⟨p,a1,.inl ⟨a2,rfl,rfl,rfl,rfl⟩⟩⟩))
  ·rcases h3 with⟨_,rfl⟩|⟨h,_⟩
   ·exact .yes h2' h1.f (.k8 hk (.inr ⟨u,hu,.inr ⟨p,a1,.inr ⟨a2,a3,rfl,rfl,rfl,rfl⟩⟩⟩))
   ·exact absurd rfl h
theorem YZ(v:Env E w B P s g ca q co lt lo t c C nb kv K X){u:Nat}(hu:Bi X lo s.id 2=some u)(hc:Ap X (Aa lo u).b1 (Aa lo u).c1=true)(hk:s.kind=9∨s.kind=10):
 Calls prog 152 #[.pointer (some ⟨P,0,none⟩),.agg #[.pointer (some ⟨q,u*10,none⟩)]] w fun e w'=>∃tx r,e= .returned (.tuple #[.string tx,r])/\Jj E B P s lt lo t X (.map (some c)) w w' tx r:=by
 obtain⟨_,ul,_⟩:=Da hu;have eo:=AH ul;have hd:=Cz v.ok;have hi:=(J0 v.ok _ (Gl ul)).1;rcases hk with hk|hk
 ·by_cases hf:(Aa lo u).items.n=8
  ·refine(MQ E w B P s g ca q co lt lo t _ v.h v.e v.h14 v.hB u ul _ eo hd hk hf).mono ?_;rintro e w' ⟨r,rfl,h1,h2,h3⟩;exact⟨_,r,rfl,.no (.of h3.wk) h1 h2 (by decide) (.k9 hk (.inr ⟨u,hu,.inr (.inl ⟨hc,hf,rfl,rfl,rfl,rfl⟩)⟩))⟩
  ·refine(OF w B P s g ca q co lt lo t _ v.h v.hB u ul _ eo hd hk hf (by omega) (v.ti _ (Gl ul)) (by have:=Fo (Lo v.so).data;unfold maxLen;omega)).mono ?_;rintro e w' ⟨a,cc,rfl,h1,h2⟩;exact⟨_,_,rfl,.yes h2 h1.f (.k9 hk (.inr ⟨u,hu,.inr (.inr ⟨hc,hf,rfl,rfl,rfl,a,cc,rfl⟩)⟩))⟩
 ·by_cases hf:(Aa lo u).items.n=0
  ·refine(M9 E w B P s g ca q co lt lo t _ v.h v.e v.h14 v.hB u ul _ eo hd hk hf).mono ?_;rintro e w' ⟨r,rfl,h1,h2,h3⟩;exact⟨_,r,rfl,.no (.of h3.wk) h1 h2 (by decide) (.k10 hk (.inr ⟨u,hu,.inr (.inl ⟨hc,hf,rfl,rfl,rfl,rfl⟩)⟩))⟩
  ·refine(M5 w B P s g ca q co lt lo t _ v.h v.hB u ul _ eo hd hk hf (by omega)).mono ?_;rintro e w' ⟨rfl,⟨a,kk,h1⟩,h2⟩;exact⟨_,_,rfl,.yes h2 h1 (.k10 hk (.inr ⟨u,hu,.inr (.inr ⟨hc,hf,rfl,rfl,rfl,a,kk,rfl⟩)⟩))⟩
theorem YU(v:Env E w B P s g ca q co lt lo t c C nb kv K X){u:Nat}(hu:Bi X lo s.id 3=some u)(hk:s.kind=15):
 Calls prog 153 #[.pointer (some ⟨P,0,none⟩),.agg #[.pointer (some ⟨q,u*10,none⟩)]] w fun e w'=>∃tx,e= .returned (.string tx)/\Jj E B P s lt lo t X (.map (some c)) w w' tx .nilIface:=by
 obtain⟨ha,ul,hid_,_⟩:=Da hu;have eo:=AH ul;rw[<-eo]at hid_;have on:=Ei v.ok;have hl:(Iy (Aa lo) (Aa lo u).id lo.length).length<=lo.length:=by
  unfold Iy;rw[List.length_map];exact Nat.le_trans (List.length_filter_le _ _) (by simp)
 refine(VJ w B P s g ca q co lt lo t c C nb kv K v.h v.n v.hB u ul _ eo (Cz v.ok) (by rw[hid_];exact ha) (Qr (Hw v.ok _ (Gl ul))) _ (v.kid u ul) (by omega) (fun x hx=>?_) v.tab).mono ?_
 ·unfold Iy at hx;obtain⟨i,hi,rfl⟩:=List.mem_map.1 hx;exact Hw v.ok _ (Gl (List.mem_range.1 (List.mem_filter.1 hi).1))
 ·rintro e w' ⟨rfl,h1,h2⟩;refine⟨_,rfl,.yes h2 h1.f (.k15 hk (.inr ⟨u,hu,rfl,?_,rfl,rfl⟩))⟩;rw[hid_]
theorem Zb(v:Env E w B P s g ca q co lt lo t c C nb kv K X){u:Nat}(hu:Bi X lo s.id 4=some u)(hk:s.kind=13):
 Calls prog 154 #[.pointer (some ⟨P,0,none⟩),.agg #[.pointer (some ⟨q,u*10,none⟩)]] w fun e w'=>∃r,e= .returned r/\Jj E B P s lt lo t X (.map (some c)) w w' ⟨#[]⟩ r:=by
 obtain⟨ha,ul,_⟩:=Da hu;have eo:=AH ul;have o1:=IE v.thr.own;have o2:=IE (v.obj ul).own;have PT:Lib.compact (Cj ((List.range X.own.n).map X.own.h++(List.range (Aa lo u).own.n).map (Aa lo u).own.h))=Dv ((List.range X.own.n).map X.own.h) (Aa lo u).own.h (Aa lo u).own.n:=P6 (UJ v.thr.own) _ _;refine(TN E w B P s g ca q co lt lo t _ v.h v.e v.h14 v.hB v.ht X v.hX u ul _ eo (Cz v.ok) (Ff X.b1 X.c1 X.own (Aa lo u).b2 (Aa lo u).c2) (fun W hW=>Ws (v.xat.below hW).1 (v.xat.below hW).2.2 ((v.oat ul).2.2.2.1.below hW) v.thr.l1 v.thr.own (v.obj ul).l2) (by omega) (by omega) _ PT.symm).mono ?_;rintro e w' ⟨r,x,c',rfl,h1,h2,h3,h4⟩;refine⟨r,rfl,?_⟩;rcases h4 with⟨rfl,a1,rfl⟩|⟨rfl,a1,a2,rfl⟩|⟨rfl,a1,a2,a,cc,rfl⟩
 ·exact .no (.of h1.wk) h2 h3 (by decide) (.k13 hk (.inr ⟨u,hu,.inl ⟨a1,rfl,rfl,rfl,rfl⟩⟩))
 ·exact .no (.of h1.wk) h2 h3 (by decide) (.k13 hk (.inr ⟨u,hu,.inr (.inl ⟨a1,a2,rfl,rfl,rfl,rfl⟩)⟩))
 ·rcases h3 with⟨_,rfl⟩|⟨h,_⟩
  ·exact .yes h2 h1.f (.k13 hk (.inr ⟨u,hu,.inr (.inr ⟨a1,a2,rfl,rfl,a,cc,rfl,rfl⟩)⟩))
  ·exact absurd rfl h
end
def IF(l l2:List Ab):Prop:=l2.length=l.length/\∀j,j<l.length->(Aa l j).same (Aa l2 j)
theorem IF.refl(l:List Ab):IF l l:=⟨rfl,fun _ _=>Ab.same.refl _⟩
def YE(E:Nat->Addr)(B P:Nat)(s:Al)(lt:List Ae)(lo:List Ab)(t:Nat)(X:Ae)(m:Value)(w w':World)(tx:ByteArray)(v:Value):Prop:=
 Below B w w'/\((KP w' P/\∃c,Told w' B E v c/\c≠0/\FJ X s lt lo t c ⟨#[]⟩ lt lo)∨(v= .nilIface/\∃(g ca q co:Nat) (lt':List Ae) (lo' lo2:List Ab),Pr w' B P s g ca q co lt' lo' t m/\IF lo' lo2/\FJ X s lt lo t 0 tx lt' lo2))
theorem Jj.q{E:Nat->Addr}{B P:Nat}{s:Al}{lt:List Ae}{lo:List Ab}{t:Nat}{X:Ae}{m:Value}{w w':World}{tx:ByteArray}{v:Value}(h:Jj E B P s lt lo t X m w w' tx v):YE E B P s lt lo t X m w w' tx v:=by
 refine⟨h.1,?_⟩;rcases h.2 with h|⟨h1,g,ca,q,co,lt',lo',h2,h3⟩
 ·exact .inl h
 ·exact .inr ⟨h1,g,ca,q,co,lt',lo',lo',h2,IF.refl _,h3⟩
def VC(E:Nat->Addr)(s:Al):Prop:=∀{w:World}{B P g ca q co:Nat}{lt:List Ae}{lo:List Ab}{t c C:Nat}{nb:Nat->Nat}{kv:Nat->Value}{K:Nat->List Int}{X:Ae},Env E w B P s g ca q co lt lo t c C nb kv K X->18<=B->
 Calls prog 70 #[.pointer (some ⟨P,0,none⟩)] w fun e w'=>∃tx r,e= .returned (.tuple #[.string tx,r])/\YE E B P s lt lo t X (.map (some c)) w w' tx r

theorem AV.store{w:World}{B q co n:Nat}{l:List Ab}(h:w.ownsRow B 47 10 (.slice (some ⟨q,0,none⟩) n co) n (AF l)){i:Nat}(hi:i<l.length)(v:Ab):
 ((((((((((w.setCell ⟨q,i*10,none⟩ (.int .i64 v.id)).setCell ⟨q,i*10+1,none⟩ (.int .i64 v.kind)).setCell ⟨q,i*10+2,none⟩ (.int .i64 v.up)).setCell ⟨q,i*10+3,none⟩ (.int .i64 v.b1)).setCell ⟨q,i*10+4,none⟩ (.slice v.c1.a v.c1.n v.c1.k)).setCell ⟨q,i*10+5,none⟩ (.string v.data)).setCell ⟨q,i*10+6,none⟩ (.slice v.items.a v.items.n v.items.k)).setCell ⟨q,i*10+7,none⟩ (.slice v.own.a v.own.n v.own.k)).setCell ⟨q,i*10+8,none⟩ (.int .i64 v.b2)).setCell ⟨q,i*10+9,none⟩ (.slice v.c2.a v.c2.n v.c2.k)).ownsRow B 47 10 (.slice (some ⟨q,0,none⟩) n co) n (AF (l.set i v)):=by
 obtain⟨o,ho⟩:∃o,o=l[i]:=⟨_,rfl⟩;have e0:=Cw (f:=Ab.cs) Ab.cs_len (l:=l) (t:=i) (x:=(⟨v.id,o.kind,o.up,o.b1,o.c1,o.data,o.items,o.own,o.b2,o.c2⟩:Ab)) (u:= .int .i64 v.id) (i:=0) (by exact hi) (by omega) (by rw[<-ho];rfl);have h0:=(World.ownsRow.stored h (i*10+0) (.int .i64 v.id)).1;rw[show AF l=((l).map Ab.cs).flatten from rfl,e0]at h0;have e1:=Cw (f:=Ab.cs) Ab.cs_len (l:=(l.set i ⟨v.id,o.kind,o.up,o.b1,o.c1,o.data,o.items,o.own,o.b2,o.c2⟩)) (t:=i) (x:=(⟨v.id,v.kind,o.up,o.b1,o.c1,o.data,o.items,o.own,o.b2,o.c2⟩:Ab)) (u:= .int .i64 v.kind) (i:=1) (by rw[List.length_set];exact hi) (by omega) (by simp only[List.getElem_set_self];rfl);rw[List.set_set]at e1;have h1:=(World.ownsRow.stored h0 (i*10+1) (.int .i64 v.kind)).1;rw[e1]at h1;have e2:=Cw (f:=Ab.cs) Ab.cs_len (l:=(l.set i ⟨v.id,v.kind,o.up,o.b1,o.c1,o.data,o.items,o.own,o.b2,o.c2⟩)) (t:=i) (x:=(⟨v.id,v.kind,v.up,o.b1,o.c1,o.data,o.items,o.own,o.b2,o.c2⟩:Ab)) (u:= .int .i64 v.up) (i:=2) (by rw[List.length_set];exact hi) (by omega) (by simp only[List.getElem_set_self];rfl);rw[List.set_set]at e2;have h2:=(World.ownsRow.stored h1 (i*10+2) (.int .i64 v.up)).1;rw[e2]at h2;have e3:=Cw (f:=Ab.cs) Ab.cs_len (l:=(l.set i ⟨v.id,v.kind,v.up,o.b1,o.c1,o.data,o.items,o.own,o.b2,o.c2⟩)) (t:=i) (x:=(⟨v.id,v.kind,v.up,v.b1,o.c1,o.data,o.items,o.own,o.b2,o.c2⟩:Ab)) (u:= .int .i64 v.b1) (i:=3) (by rw[List.length_set];exact hi) (by omega) (by simp only[List.getElem_set_self];rfl);rw[List.set_set]at e3;have h3:=(World.ownsRow.stored h2 (i*10+3) (.int .i64 v.b1)).1;rw[e3]at h3;have e4:=Cw (f:=Ab.cs) Ab.cs_len (l:=(l.set i ⟨v.id,v.kind,v.up,v.b1,o.c1,o.data,o.items,o.own,o.b2,o.c2⟩)) (t:=i) (x:=(⟨v.id,v.kind,v.up,v.b1,v.c1,o.data,o.items,o.own,o.b2,o.c2⟩:Ab)) (u:= .slice v.c1.a v.c1.n v.c1.k) (i:=4) (by rw[List.length_set];exact hi) (by omega) (by simp only[List.getElem_set_self];rfl);rw[List.set_set]at e4;have h4:=(World.ownsRow.stored h3 (i*10+4) (.slice v.c1.a v.c1.n v.c1.k)).1;rw[e4]at h4;have e5:=Cw (f:=Ab.cs) Ab.cs_len (l:=(l.set i ⟨v.id,v.kind,v.up,v.b1,v.c1,o.data,o.items,o.own,o.b2,o.c2⟩)) (t:=i) (x:=(⟨v.id,v.kind,v.up,v.b1,v.c1,v.data,o.items,o.own,o.b2,o.c2⟩:Ab)) (u:= .string v.data) (i:=5) (by rw[List.length_set];exact hi) (by omega) (by simp only[List.getElem_set_self];rfl);rw[List.set_set]at e5;have h5:=(World.ownsRow.stored h4 (i*10+5) (.string v.data)).1;rw[e5]at h5;have e6:=Cw (f:=Ab.cs) Ab.cs_len (l:=(l.set i ⟨v.id,v.kind,v.up,v.b1,v.c1,v.data,o.items,o.own,o.b2,o.c2⟩)) (t:=i) (x:=(⟨v.id,v.kind,v.up,v.b1,v.c1,v.data,v.items,o.own,o.b2,o.c2⟩:Ab)) (u:= .slice v.items.a v.items.n v.items.k) (i:=6) (by rw[List.length_set];exact hi) (by omega) (by simp only[List.getElem_set_self];rfl);rw[List.set_set]at e6;have h6:=(World.ownsRow.stored h5 (i*10+6) (.slice v.items.a v.items.n v.items.k)).1;rw[e6]at h6;have e7:=Cw (f:=Ab.cs) Ab.cs_len (l:=(l.set i ⟨v.id,v.kind,v.up,v.b1,v.c1,v.data,v.items,o.own,o.b2,o.c2⟩)) (t:=i) (x:=(⟨v.id,v.kind,v.up,v.b1,v.c1,v.data,v.items,v.own,o.b2,o.c2⟩:Ab)) (u:= .slice v.own.a v.own.n v.own.k) (i:=7) (by rw[List.length_set];exact hi) (by omega) (by simp only[List.getElem_set_self];rfl);rw[List.set_set]at e7;have h7:=(World.ownsRow.stored h6 (i*10+7) (.slice v.own.a v.own.n v.own.k)).1;rw[e7]at h7;have e8:=Cw (f:=Ab.cs) Ab.cs_len (l:=(l.set i ⟨v.id,v.kind,v.up,v.b1,v.c1,v.data,v.items,v.own,o.b2,o.c2⟩)) (t:=i) (x:=(⟨v.id,v.kind,v.up,v.b1,v.c1,v.data,v.items,v.own,v.b2,o.c2⟩:Ab)) (u:= .int .i64 v.b2) (i:=8) (by rw[List.length_set];exact hi) (by omega) (by simp only[List.getElem_set_self];rfl);rw[List.set_set]at e8;have h8:=(World.ownsRow.stored h7 (i*10+8) (.int .i64 v.b2)).1;rw[e8]at h8;have e9:=Cw (f:=Ab.cs) Ab.cs_len (l:=(l.set i ⟨v.id,v.kind,v.up,v.b1,v.c1,v.data,v.items,v.own,v.b2,o.c2⟩)) (t:=i) (x:=(⟨v.id,v.kind,v.up,v.b1,v.c1,v.data,v.items,v.own,v.b2,v.c2⟩:Ab)) (u:= .slice v.c2.a v.c2.n v.c2.k) (i:=9) (by rw[List.length_set];exact hi) (by omega) (by simp only[List.getElem_set_self];rfl);rw[List.set_set]at e9;have h9:=(World.ownsRow.stored h8 (i*10+9) (.slice v.c2.a v.c2.n v.c2.k)).1;rw[e9]at h9;exact h9
theorem AV.cells{w:World}{B q co:Nat}{l:List Ab}(h:AV w B (.slice (some ⟨q,0,none⟩) l.length co) l){i:Nat}(hi:i<l.length):Cr w q (i*10) l[i]/\q<w.heap.size/\B<=q/\(∃cur,Ah w q (.cells cur 47)):=by
 obtain⟨b,off,e,hlt,hc⟩:=Bh.own h (by omega);cases e;obtain⟨c0,c1,c2,c3,c4,c5,c6,c7,c8,c9⟩:=Kt hi;have g:∀(j:Nat) (u:Value),(AF l)[j]? =some u->w.cell? ⟨q,j,none⟩=some u:=fun j u hu=>by
  have:=hc j u hu;rw[Nat.zero_add]at this;exact this
 refine⟨⟨g _ _ c0,g _ _ c1,g _ _ c2,g _ _ c3,g _ _ c4,g _ _ c5,g _ _ c6,g _ _ c7,g _ _ c8,g _ _ c9⟩,hlt,?_⟩;rcases h.2 with⟨hv,_⟩|⟨g',cap,cur,hv,hB,hgg,_⟩
 ·cases hv
 ·cases hv;exact⟨hB,cur,hgg⟩
theorem Rj{w w1 w2:World}{row:Option Nat}(h:w.grownBy w1 row)(hb:Below w1 w1 w2):w.grownBy w2 row:=
 ⟨hb.os.trans h.os,hb.tape.trans h.tape,hb.output.trans h.output,Nat.le_trans h.size hb.size,fun k hk hne=>(hb.block k (Nat.lt_of_lt_of_le hk h.size)).trans (h.block k hk hne)⟩
theorem Bg{w w1:World}{q:Nat}(h:w.grownBy w1 (some q))(i:Nat)(v:Value):w.grownBy (w1.setCell ⟨q,i,none⟩ v) (some q):=
 ⟨h.os,h.tape,h.output,by simpa[World.setCell]using h.size,fun k hk hne=>(Below.heap_setCell _ _ _ _ (fun(e:k=q)=>hne (by rw[e]))).trans (h.block k hk hne)⟩
end Go.Proofs.YtallmkehpfaaeaaGreatDoor
