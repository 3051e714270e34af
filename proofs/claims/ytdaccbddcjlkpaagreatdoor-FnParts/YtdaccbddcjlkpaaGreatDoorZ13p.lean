import Derived.Test.YtdaccbddcjlkpaaGreatDoorNU1p
set_option maxRecDepth 100000
set_option maxHeartbeats 16000000
namespace Go.Proofs.YtdaccbddcjlkpaaGreatDoor
open Go Go.RowKit Go.Deep Go.Maps Go.BigFrame Go.Shelf Go.Proofs.Tryz
open Go.Value renaming slice→qV
open _root_.List renaming range→qx,range_succ→kZ,map_append→kF,getD_eq_getElem?_getD→jN,getElem?_eq_getElem→jM,getElem_mem→qk
def JQ(l:List Int)(i:Nat):ByteArray:=⟨(Dd (AZ l i).toNat).toArray⟩
theorem Yc(sep:List UInt8)(r:List (List UInt8))(x:List UInt8):Lib.joinTail sep (r++[x])=Lib.joinTail sep r++(sep++x):=by simp[Lib.joinTail]
theorem Yx{r:List (List UInt8)}(h:r≠[])(x sep:List UInt8):Lib.join (r++[x]) sep=Lib.join r sep++sep++x:=by
 cases r with
 |nil=>exact absurd rfl h
 |cons y r=>rw[List.cons_append,Lib.join_cons,Lib.join_cons,Yc];simp
theorem TZ(l:List Int):∀n,(Rm (AZ l) n).data.toList=Lib.join (((qx n).map (JQ l)).map (·.data.toList)) [32]
 |0=>rfl
 |n+1=>by
  have ih:=TZ l n;rw[kZ,kF,kF];by_cases h:0<n
  ·rw[show([n].map (JQ l)).map (·.data.toList)=[Dd (AZ l n).toNat] from by simp[JQ]];rw[Yx sO,<-ih];simp[Rm,h]
  ·have e:n=0:=qQ;subst e;simp[Rm,JQ,Lib.join,List.intercalate]
theorem own_below{w w':World}{B e size n:Nat}{v:Value}{xs:List Value}(h:w.ownsRow B e size v n xs)(hb:Below w w w'):w'.ownsRow B e size v n xs:=by
 refine⟨h.1,?_⟩;rcases h.2 with h2|⟨g,cap,cur,hv,h1,h2,h3,h4,h5,h6⟩
 ·exact .inl h2
 ·refine .inr ⟨g,cap,cur,hv,h1,?_,h3,h4,h5,h6⟩;rw[hb.block g (by rcases Nat.lt_or_ge g w with h|h;exact h;simp[Array.getElem?_eq_none h]at h2)];exact h2
theorem Za{x:Int}(h:x.toNat<=1000000):(⟨(Dd x.toNat).toArray⟩:ByteArray).size<=1000001:=by
 have h1:=Gj x.toNat;show(Dd x.toNat).toArray.size<=_;simp;omega
theorem X4(a:Option Addr)(k:Nat)(x:Value)(w:World):Calls prog 203 #[qV a 0 k,x] w fun e w'=>e= .returned (.string ⟨#[]⟩)/\Below w w w':=by
 go_enter func203,ntmps203
 go_wp2;go_ret;exact⟨rfl,Below.refl _ _⟩
theorem ZO(w:World)(B P:Nat)(s:Aj)(g ca q co:Nat)(lt:List Ae)(lo:List Ab)(t c C:Nat)(nb:Nat->Nat)(kv:Nat->Value)(K:Nat->List Int)(h:Fg w B P s g ca q co lt lo t (.map (some c)))(hN:Ei w C c lo.length (fun i=>(Aa lo i).id) q 0 nb kv K)(hB:B<=w.heap.size)(u:Nat)(hu:u<lo.length)(O:Ab)(hO:O=lo[u])(hd:∀x∈lo,x.data.size<=maxLen)(hf:Hq lo O.id=some u)(hi:(Lit.int .i64 O.id).wf=true)(KL:List Int)(hK:K u=KL)(hn:KL.length<=1000)(hx:∀x∈KL,0<=x/\x<=1000000)(tab:Td w):
 Calls prog 187 #[.pointer P,.agg #[.pointer (some ⟨q,u*10,none⟩)]] w fun e w'=>e= .returned (.string (Rm (AZ KL) KL.length))/\Fg w' B P s g ca q co lt lo t (.map (some c))/\Below B w w':=by
 obtain⟨CO,ql⟩:=h.st.jF hu hd;rw[<-hO]at CO;have n2:Nw (w.alloc (.cells #[.pointer (some ⟨q,u*10,none⟩)] 254)):=⟨⟩;have b0:Below w w n2:=Bg w _;have c0:(n2:World).cell? ⟨w,0,none⟩=some (.pointer (some ⟨q,u*10,none⟩)):=by go_simp
 have ow:=hN.own u hu;rw[hK]at ow;obtain⟨ka,kc,ekv⟩:=AI.form ow;have ND:=hN.below b0.drew;have bk:=ND.blk u hu;rw[Nat.zero_add,ekv]at bk;have LK:=ND.map.look hi;rw[show Bq (fun i=>(Aa lo i).id) lo.length O.id=some u from hf]at LK;simp only[Option.map_some]at LK;obtain⟨n0,n1⟩:=bk.two;obtain⟨_,_,_,_,c13⟩:=(h.wk.below b0.drew).jZ;have z0:(n2:World).drew.cell? ⟨w,0,none⟩=some (.pointer (some ⟨q,u*10,none⟩)):=c0;have z1:(n2:World).drew.cell? ⟨q,u*10,none⟩=some (.int .i64 O.id):=(CO.below ql b0.drew).c0;have HW:=qC h;have OW:Hid (AI w C (qV ka KL.length kc) KL):=qC (by rw[<-ekv];exact ow);have HX:=qC hx;have TB:=qC tab;have B0:=qC b0.drew;clear h hN hO CO ow ekv ND hK hx tab hf c0 b0 bk hd;go_enter func187,ntmps187
 go_upto_region 2 with fail
 go_cut[21,22,23] from 8 (fun x y z wc=>x= qV ka KL.length kc/\y= .int .i64 KL.length/\z= .int .i64 0/\wc=(n2:World).drew)
 case first=>
  go_region_law fail
  all_goals(
   go_wp2_with fail
   go_meet;case rel=>exact⟨rfl,rfl,rfl,rfl⟩)
 case rest=>
  obtain⟨rfl,rfl,rfl,rfl⟩:=hcut;clear n0 n1 LK c13 z0 z1;go_wp2;go_loopw [5,23] (fun v i wr=>∃(j:Nat) (a:Option Addr) (cc:Nat),j<=KL.length/\i= .int .i64 j/\v= qV a j cc/\Hid (FV wr w (qV a j cc) j (JQ KL))/\Hid (Below w w wr)) (fun _ i _=>KL.length-(intOf i).toNat)
  case atStart=>exact⟨0,none,0,Nat.zero_le _,rfl,rfl,qC (World.ownsRow_nil _ _ _ _),B0⟩
  case round=>
   obtain⟨j,a,cc,hj,rfl,rfl,OS,BW⟩:=hrel;by_cases hlt:j<KL.length
   ·have i1:(j:Int)<(KL.length:Int):=qQ;have i0:(0:Int)<=(j:Int):=qQ;obtain⟨kb,ko,ea,kl,kcc⟩:=(AI.lies OW).ints qQ;have kcell:=(BW.out.cell (p:=⟨kb,ko+j,none⟩) kl).trans (kcc j hlt);rw[ea];have xm:AZ KL j∈KL:=(by unfold AZ;rw[jN,jM hlt];exact qk hlt);have xb:=HX.out _ xm;have DC:=qC (J0 (AZ KL j) wr xb.1 qQ (TB.out.below BW));have SZ:Hid ((JQ KL j).size<=maxLen):=qC (by have:=Za (x:=AZ KL j) qQ;show(⟨(Dd (AZ KL j).toNat).toArray⟩:ByteArray).size<=maxLen;unfold maxLen;omega);clear kcc xm;go_wp2_with fail
    refine DC.out.mono ?_;rintro e w1 ⟨rfl,b1⟩;have O1:=qC (own_below OS b1);have B1:=qC (Af BW b1);have BA:=Bg w1 (.cells #[.string ⟨(Dd (AZ KL j).toNat).toArray⟩] 9);have O2:=qC (own_below O1 BA);have B2:=qC (Af B1 BA);have L2:=qC (Jr w1 ⟨(Dd (AZ KL j).toNat).toArray⟩);have s2:=B2.out.size;clear b1 BA DC kcell;go_wp2_with(refine Cl underlying57 Tryz.info9 rfl qQ _ rfl _ _ rfl w (qV a j cc) j (JY j (JQ KL)) rfl O2 (some ⟨w1,0,none⟩) 1 1 [.string ⟨(Dd (AZ KL j).toNat).toArray⟩] rfl rfl L2 (fun u hu=>by simp at hu;subst hu;rfl) qQ qQ s2 ?_;intro a3 c3 w3 o3 g3)
    have O3:Hid (FV w3 w (qV a3 (j+1) c3) (j+1) (JQ KL)):=qC (by
     have e:JY (j+1) (JQ KL)=JY j (JQ KL)++[.string ⟨(Dd (AZ KL j).toNat).toArray⟩]:=(by unfold JY;rw[kZ];simp[JQ]);rw[<-e]at o3;exact o3)
    have B3:Hid (Below w w w3):=qC (B2.out.trans (below_grown g3 B2.out.size (fun j e=>(World.ownsRow.lt O2 j e).1)));clear o3 g3;go_roundw;case rel=>exact⟨j+1,a3,c3,by omega,by go_num,rfl,O3,B3⟩
    case measure=>simp[intOf];omega
   ·have ej:j=KL.length:=qQ;have i1:¬(j:Int)<(KL.length:Int):=qQ;subst ej;by_cases h0:0<KL.length
    ·obtain⟨gb,mm,F,ea,hb1,hb2,hr⟩:=DT OS h0;subst ea;obtain⟨b',off,e',hlt',hcc⟩:=Bl.own OS h0;cases e';have lw:=hr.lt;have JS:((Rm (AZ KL) KL.length).size)<=KL.length*1000002:=Sy (fun i hi=>by
      have hi':=HX.out (AZ KL i) (by unfold AZ;rw[jN,jM hi];exact qk hi);omega)
     have JJ:=qC (TZ KL KL.length);have JN:Hid (Calls prog 203 #[qV gb KL.length cc,.string ⟨#[32]⟩] wr fun e w'=>e= .returned (.string (Rm (AZ KL) KL.length))/\Below wr wr w'):=qC (by
      have el:((qx KL.length).map (JQ KL)).length=KL.length:=sI;have jl:(Lib.join (((qx KL.length).map (JQ KL)).map (·.data.toList)) [32]).length=(Rm (AZ KL) KL.length).size:=by
       rw[<-JJ.out];exact Array.length_toList
      have:=Tryz.strings_Join gb 0 cc ((qx KL.length).map (JQ KL)) ⟨#[32]⟩ wr (fun i x hx'=>hcc i (.string x) (by
       have hil:i<KL.length:=by
        have:=(List.getElem?_eq_some_iff.1 hx').1;simpa using this
       simp[hil]at hx';subst hx';simp[JY,hil])) lw (by rw[el];omega) (by rw[el];exact(Dj OS).1) (by
        show(Lib.join (((qx KL.length).map (JQ KL)).map (·.data.toList)) [32]).length<=_;rw[jl];omega)
      rw[el]at this;refine this.mono ?_;rintro e w' ⟨rfl,hb⟩;refine⟨?_,hb⟩;have e2:(⟨(Lib.join (((qx KL.length).map (JQ KL)).map (·.data.toList)) (⟨#[32]⟩:ByteArray).data.toList).toArray⟩:ByteArray)=Rm (AZ KL) KL.length:=by
       have:(Lib.join (((qx KL.length).map (JQ KL)).map (·.data.toList)) (⟨#[32]⟩:ByteArray).data.toList)=(Rm (AZ KL) KL.length).data.toList:=JJ.out.symm;rw[this]
      rw[e2])
     clear hcc hr lw JS;go_wp2_with fail
     refine JN.out.mono ?_;rintro e w1 ⟨rfl,b1⟩;have B1:=qC (Af BW b1);clear b1;go_wp2;go_ret;exact⟨rfl,HW.out.below B1,B1.out.mono hB⟩
    ·have e0:KL=[]:=List.eq_nil_of_length_eq_zero qQ;subst e0;have SH:=OS.out.2;have en:a=none∨∃gb,a=some ⟨gb,0,none⟩:=by
      rcases SH with⟨hv,_⟩|⟨gb,cap,cur,hv,_⟩
      ·left;cases hv;rfl
      ·right;cases hv;exact⟨gb,rfl⟩
     clear SH;have JN:=qC (X4 a cc (.string ⟨#[32]⟩) wr);go_wp2_with fail
     refine JN.out.mono ?_;rintro e w1 ⟨rfl,b1⟩;have B1:=qC (Af BW b1);clear b1;go_wp2;go_ret;exact⟨rfl,HW.out.below B1,B1.out.mono hB⟩
open Go.Ending renaming returned→rT
theorem Vu(k:Int)(w:World):Calls prog 184 #[.int .i64 k] w fun e w'=>e= rT (.bool (k==6||k==9||k==10))/\Below w w w':=by
 by_cases h0:k=6
 ·subst h0;go_enter func184,ntmps184
  go_wp2;go_ret;exact⟨by simp,Below.refl _ _⟩
 ·have b0:(k==6)=false:=by simpa using h0
  by_cases h1:k=9
  ·subst h1;go_enter func184,ntmps184
   go_wp2;go_ret;exact⟨by simp,Below.refl _ _⟩
  ·have b1:(k==9)=false:=(by simpa using h1);by_cases h2:k=10
   ·subst h2;go_enter func184,ntmps184
    go_wp2;go_ret;exact⟨by simp,Below.refl _ _⟩
   ·have b2:(k==10)=false:=(by simpa using h2);go_enter func184,ntmps184
    go_wp2;go_ret;exact⟨by simp[h0,h1,h2],Below.refl _ _⟩
theorem Lv(v:Value)(k:Int)(w:World):Calls prog 282 #[.agg #[v],.int .i64 k] w fun e w'=>e= rT (.bool (k==6||k==7||k==8))/\Below w w w':=by
 by_cases h0:k=6
 ·subst h0;go_enter func282,ntmps282
  go_wp2;go_ret;exact⟨by simp,Bg w _⟩
 ·have b0:(k==6)=false:=by simpa using h0
  by_cases h1:k=7
  ·subst h1;go_enter func282,ntmps282
   go_wp2;go_ret;exact⟨by simp,Bg w _⟩
  ·have b1:(k==7)=false:=(by simpa using h1);by_cases h2:k=8
   ·subst h2;go_enter func282,ntmps282
    go_wp2;go_ret;exact⟨by simp,Bg w _⟩
   ·have b2:(k==8)=false:=(by simpa using h2);go_enter func282,ntmps282
    go_wp2;go_ret;exact⟨by simp[h0,h1,h2],Bg w _⟩
theorem Ns(v:Value)(k:Int)(w:World):Calls prog 283 #[.agg #[v],.int .i64 k] w fun e w'=>e= rT (.bool (k==9||k==10))/\Below w w w':=by
 by_cases h0:k=9
 ·subst h0;go_enter func283,ntmps283
  go_wp2;go_ret;exact⟨by simp,Bg w _⟩
 ·have b0:(k==9)=false:=by simpa using h0
  by_cases h1:k=10
  ·subst h1;go_enter func283,ntmps283
   go_wp2;go_ret;exact⟨by simp,Bg w _⟩
  ·have b1:(k==10)=false:=(by simpa using h1);go_enter func283,ntmps283
   go_wp2;go_ret;exact⟨by simp[h0,h1],Bg w _⟩
theorem Qt(v:Value)(k:Int)(w:World):Calls prog 284 #[.agg #[v],.int .i64 k] w fun e w'=>e= rT (.bool (k==15))/\Below w w w':=by
 by_cases h0:k=15
 ·subst h0;go_enter func284,ntmps284
  go_wp2;go_ret;exact⟨by simp,Bg w _⟩
 ·have b0:(k==15)=false:=by simpa using h0
  go_enter func284,ntmps284
  go_wp2;go_ret;exact⟨by simp[h0],Bg w _⟩
theorem Pf(v:Value)(k:Int)(w:World):Calls prog 285 #[.agg #[v],.int .i64 k] w fun e w'=>e= rT (.bool (k==13))/\Below w w w':=by
 by_cases h0:k=13
 ·subst h0;go_enter func285,ntmps285
  go_wp2;go_ret;exact⟨by simp,Bg w _⟩
 ·have b0:(k==13)=false:=by simpa using h0
  go_enter func285,ntmps285
  go_wp2;go_ret;exact⟨by simp[h0],Bg w _⟩
def Bj(k:Int):Int:=if k=2 then 1 else if k=3 then 2 else if k=4 then 3 else 4
theorem Hn(k:Int)(w:World):Calls prog 170 #[.int .i64 k] w fun e w'=>e= rT (.int .i64 (Bj k))/\w'=w:=by
 by_cases h0:k=2
 ·subst h0;go_enter func170,ntmps170
  go_wp2;go_ret;exact⟨by simp[Bj],rfl⟩
 ·have b0:(k==2)=false:=by simpa using h0
  by_cases h1:k=3
  ·subst h1;go_enter func170,ntmps170
   go_wp2;go_ret;exact⟨by simp[Bj],rfl⟩
  ·have b1:(k==3)=false:=(by simpa using h1);by_cases h2:k=4
   ·subst h2;go_enter func170,ntmps170
    go_wp2;go_ret;exact⟨by simp[Bj],rfl⟩
   ·have b2:(k==4)=false:=(by simpa using h2);go_enter func170,ntmps170
    go_wp2;go_ret;exact⟨by simp[Bj,h0,h1,h2],rfl⟩
open _root_.List renaming mem_append→jq
variable {L:List Int}{h:Nat->Int}
theorem M4(d:Array Int)(hs:∀i j,i<=j->j<d.size->d[i]!<=d[j]!):∀m,m<=d.size->(Lib.compactUpTo d m).Pairwise (· <·)/\∀x,x∈Lib.compactUpTo d m↔∃i,i<m/\x=d[i]!
 |0,_=>⟨by simp[Lib.compactUpTo],by simp[Lib.compactUpTo]⟩
 |m+1,hm=>by
  obtain⟨h1,h2⟩:=M4 d hs m qQ;rw[Lib.compactUpTo_succ];by_cases h0:m=0
  ·subst h0;simp[Lib.compactUpTo,Lib.keeps]
  ·by_cases he:d[m]! =d[m-1]!
   ·rw[Lib.keeps_neg qQ he];simp only[Bool.false_eq_true,if_false,List.append_nil];refine⟨h1,fun x=>?_⟩;rw[h2];constructor
    ·rintro⟨i,hi,e⟩;exact⟨i,by omega,e⟩
    ·rintro⟨i,hi,e⟩;by_cases e1:i=m
     ·subst e1;exact⟨i-1,by omega,by rw[e,he]⟩
     ·exact⟨i,by omega,e⟩
   ·rw[Lib.keeps_pos he];simp only[if_true];refine⟨?_,fun x=>?_⟩
    ·rw[List.pairwise_append];refine⟨h1,by simp,fun a ha b hb=>?_⟩;obtain⟨i,hi,rfl⟩:=(h2 a).1 ha;simp at hb;subst hb;have a1:=hs i (m-1) qQ qQ;have a2:=hs (m-1) m qQ qQ;omega
    ·rw[jq,h2];simp only[List.mem_singleton];constructor
     ·rintro(⟨i,hi,e⟩|e)
      ·exact⟨i,by omega,e⟩
      ·exact⟨m,by omega,e⟩
     ·rintro⟨i,hi,e⟩;by_cases e1:i=m
      ·subst e1;exact .inr e
      ·exact .inl ⟨i,by omega,e⟩
theorem ax(l:List Int):(CM l).Pairwise (· <=·):=by
 have:=List.pairwise_mergeSort (le:=fun(x y:Int)=>decide (x<=y)) (fun a b c h1 h2=>by simp at *;omega) (fun a b=>by simp;omega) l;exact this.imp (fun h=>by simpa using h)
theorem Sq(l:List Int):(Lib.compact (CM l)).Pairwise (· <·)/\∀x,x∈Lib.compact (CM l)↔x∈l:=by
 have h:=M4 (CM l).toArray (fun i j hij hj=>by
  simp only[List.size_toArray]at hj;by_cases e:i=j
  ·subst e;exact Int.le_refl _
  ·have:=List.pairwise_iff_getElem.1 (ax l) i j qQ hj qQ;simpa[getElem!_pos,hj,show i<(CM l).length by omega]using this) (CM l).length sI
 refine⟨h.1,fun x=>?_⟩;unfold Lib.compact;rw[h.2,<-Ms (l:=l)];constructor
 ·rintro⟨i,hi,rfl⟩;have:(CM l).toArray[i]! =(CM l)[i]:=by simp[getElem!_pos,hi]
  rw[this];exact List.getElem_mem hi
 ·intro hx;obtain⟨i,hi,rfl⟩:=List.getElem_of_mem hx;exact⟨i,hi,by simp[getElem!_pos,hi]⟩
theorem Nm(hL:L.Pairwise (· <·)):∀q,(Ed L h q).Pairwise (· <·)
 |0=>hL
 |q+1=>J8 (Nm hL q)
theorem Rh(x:Int):∀q,x∈Ed L h q↔x∈L∨∃i,i<q/\x=h i
 |0=>by simp[Ed]
 |q+1=>by
  simp only[Ed];rw[Xi,Rh x q];constructor
  ·rintro((a|⟨i,hi,e⟩)|e)
   ·exact .inl a
   ·exact .inr ⟨i,by omega,e⟩
   ·exact .inr ⟨q,by omega,e⟩
  ·rintro(a|⟨i,hi,e⟩)
   ·exact .inl (.inl a)
   ·by_cases e1:i=q
    ·subst e1;exact .inr e
    ·exact .inl (.inr ⟨i,by omega,e⟩)
theorem M5(hL:L.Pairwise (· <·))(h:Nat->Int)(n:Nat):Lib.compact (CM (L++(qx n).map h))=Ed L h n:=by
 obtain⟨a,b⟩:=Sq (L++(qx n).map h);refine Px a (Nm hL n) (fun x=>?_);rw[b,Rh,jq,List.mem_map];simp only[List.mem_range];constructor
 ·rintro(c|⟨i,hi,e⟩)
  ·exact .inl c
  ·exact .inr ⟨i,hi,e.symm⟩
 ·rintro(c|⟨i,hi,e⟩)
  ·exact .inl c
  ·exact .inr ⟨i,hi,e.symm⟩
theorem S9(hL:L.Pairwise (· <·))(x:Int):Lib.compact (CM (L++[x]))=Eh L x:=by
 have:=M5 hL (fun _=>x) 1;simpa[Ed]using this
theorem Om(base:Int)(a:Option Addr)(n cap:Nat)(w:World)(hn:n<=maxLen):
 Calls prog 91 #[.agg #[.int .i64 base,.slice a n cap]] w fun e w'=>e= .returned (.bool (DV base n))/\Below w w w':=by
 unfold maxLen at hn;have hb0:=Bg w (.cells #[.int .i64 base,.slice a n cap] 42);cases t:(base==0)with
 |true=>
  go_enter func91,ntmps91
  go_wp2;go_ret;refine⟨Ah ?_,hb0⟩;unfold DV;rw[t,Bool.true_and];by_cases e:n=0
  ·subst e;rfl
  ·have e1:(n==0)=false:=(by simpa using e);rw[e1];simp;omega
 |false=>
  go_enter func91,ntmps91
  go_wp2;go_ret;exact⟨Ah (by simp[DV,t]),hb0⟩
def Le(d:ByteArray):Bool:=d.toList.isEmpty
def Fj(ok ui ut uc ud ul ue:Bool)(th kind id to' cat:Int)(d:ByteArray)(lo zl co zc:Bool):Bool:=
 ok&&Ev th 1 9&&lo&&(ul||zl)&&co&&(ue||zc)&&By d 40&&(ud||Le d)&&NF id ui&&NF to' ut&&Pt kind cat uc
def Hi(th kind id to' cat:Int)(d:ByteArray)(bl:Int)(nl:Nat)(fl gl:Nat->Int)(bc:Int)(nc:Nat)(fc gc:Nat->Int):Bool:=
 Fj (dw kind) (fo kind) (fx kind) (UG kind) (QZ kind) (Mz kind) (Jt kind) th kind id to' cat d (Bb bl nl fl gl) (DV bl nl) (Bb bc nc fc gc) (DV bc nc)
open _root_.Bool renaming and_eq_true→qz,or_eq_true→xN
open _root_.List renaming mem_iff_getElem→zx,all_eq_true→kH,mem_range→jG
def okL(lt:List Ae)(lo:List Ab):Bool:=Bh (Df none 0 none 0 lt lo)
theorem Ey{lt:List Ae}{i:Nat}(h:i<lt.length):Be lt i=lt[i]:=by simp[Be,h]
theorem AL{lo:List Ab}{i:Nat}(h:i<lo.length):Aa lo i=lo[i]:=by simp[Aa,h]
theorem Ce{b:Int}{c:As}(h:Bb b c.n c.f c.g=true):FF c/\c.n<=12:=by
 unfold Bb at h;simp only[qz,decide_eq_true_eq,kH,jG]at h;obtain⟨⟨_,hn⟩,ha⟩:=h;refine⟨?_,hn⟩;intro j hj;induction j with
 |zero=>intro i hi;omega
 |succ j ih=>
  intro i hi;have h1:=ha (j+1) hj;unfold Dv at h1;simp only[qz,xN,decide_eq_true_eq,beq_iff_eq]at h1;have h2:c.f j<c.f (j+1):=by
   rcases h1.2 with e|e
   ·omega
   ·simpa using e
  by_cases e:i=j
  ·subst e;exact h2
  ·have:=ih qQ i qQ;omega
structure Pe(x:Ae):Prop where
 id:1<=x.id/\x.id<=9
 l1:Bb x.b1 x.c1.n x.c1.f x.c1.g=true
 l2:Bb x.b2 x.c2.n x.c2.f x.c2.g=true
 own:Cf x.own.n x.own.h=true
 made:0<=x.made/\x.made<=30
theorem IM{x:Ae}:C8 x=true↔Pe x:=by
 unfold C8 Dz;simp only[qz,CY];exact⟨fun⟨⟨⟨⟨a,b⟩,c⟩,d⟩,e⟩=>⟨a,b,c,d,e⟩,fun h=>⟨⟨⟨⟨h.id,h.l1⟩,h.l2⟩,h.own⟩,h.made⟩⟩
theorem JH{n:Nat}{h:Nat->Int}(e:Cf n h=true):n<=10:=by
 unfold Cf at e;simp only[qz,decide_eq_true_eq]at e;exact e.1
theorem Pe.small{x:Ae}(h:Pe x):x.small:=⟨by have:=(Ce h.l1).2;omega,by have:=(Ce h.l2).2;omega,by have:=JH h.own;omega⟩
structure NY(x:Ab):Prop where
 l1:Bb x.b1 x.c1.n x.c1.f x.c1.g=true
 l2:Bb x.b2 x.c2.n x.c2.f x.c2.g=true
 own:Cf x.own.n x.own.h=true
 data:By x.data 40=true
 jA:En x.jA.n x.jA.f=true
 kind:Hp x=true
theorem JW{x:Ab}:CF x=true↔NY x:=by
 unfold CF;simp only[qz];exact⟨fun⟨⟨⟨⟨⟨a,b⟩,c⟩,d⟩,e⟩,f⟩=>⟨a,b,c,d,e,f⟩,fun h=>⟨⟨⟨⟨⟨h.l1,h.l2⟩,h.own⟩,h.data⟩,h.jA⟩,h.kind⟩⟩
theorem GK{d:ByteArray}(h:By d 40=true):d.size<=40:=by
 unfold By at h;simp only[qz,decide_eq_true_eq]at h;omega
section
variable {lt:List Ae}{lo:List Ab} (ok:okL lt lo=true)
include ok
theorem Gh:1<=lt.length/\lt.length<=9:=by
 have h:=CZ (Cj ok).1;exact⟨h.1,h.2.1⟩
theorem Er:1<=lo.length/\lo.length<=271:=by
 have h:=Cv (Cj ok).2.1;exact⟨h.1,h.2.1⟩
theorem FK:∀x∈lt,Pe x:=fun x hx=>by
 obtain⟨i,hi,e⟩:=zx.1 hx;have h:=(CZ (Cj ok).1).2.2 i hi;unfold Ej at h;simp only[qz]at h;have e2:(Df none 0 none 0 lt lo).T i=x:=(Ey hi).trans e;rw[e2]at h;exact IM.1 h.1
theorem Fs:∀x∈lo,NY x:=fun x hx=>by
 obtain⟨i,hi,e⟩:=zx.1 hx;have h:=(Cv (Cj ok).2.1).2.2.1 i hi;unfold Gd at h;simp only[qz]at h;have e2:(Df none 0 none 0 lt lo).O i=x:=(AL hi).trans e;rw[e2]at h;exact JW.1 h.1
theorem Iv:∀x∈lo,0<=x.id/\x.id<=1000000:=fun x hx=>by
 obtain⟨i,hi,e⟩:=zx.1 hx;have k:=BU.1 ok;have e2:(Df none 0 none 0 lt lo).O i=x:=(AL hi).trans e;by_cases h0:i=0
 ·subst h0;have r:=k.root;rw[e2]at r;unfold Gm at r;simp only[qz,beq_iff_eq]at r;omega
 ·have h:=k.num i qQ hi;rw[e2]at h;obtain⟨t,h1,h2,h3,h4⟩:=FX k.thr h;have e3:(Df none 0 none 0 lt lo).T t=lt[t]:=Ey h1;rw[e3]at h2 h4;have f:=FK ok _ (List.getElem_mem h1);have:=f.id;have:=f.made;omega
theorem Cx:∀x∈lo,x.data.size<=maxLen:=fun x hx=>by
 have:=GK (Fs ok x hx).data;unfold maxLen;omega
theorem Mq:∀x∈lo,x.jA.n<=8/\∀i,i<x.jA.n->By (x.jA.f i) 40=true:=fun x hx=>by
 have h:=(Fs ok x hx).jA;unfold En at h;simp only[qz,decide_eq_true_eq,kH,jG]at h;exact⟨by omega,h.2⟩
end
def Aj.ok(s:Aj):Bool:=Hi s.th s.kind s.id s.to s.cat s.data s.b1 s.c1.n s.c1.f s.c1.g s.b2 s.c2.n s.c2.f s.c2.g
structure Xd(s:Aj):Prop where
 kind:1<=s.kind/\s.kind<=15
 l1:Bb s.b1 s.c1.n s.c1.f s.c1.g=true
 l2:Bb s.b2 s.c2.n s.c2.f s.c2.g=true
 data:By s.data 40=true
 cat:Pt s.kind s.cat (UG s.kind)=true
 id:NF s.id (fo s.kind)=true
theorem Hu{s:Aj}(h:s.ok=true):Xd s:=by
 unfold Aj.ok Hi Fj at h;simp only[qz]at h;obtain⟨⟨⟨⟨⟨⟨⟨⟨⟨⟨a,b⟩,c⟩,d⟩,e⟩,f⟩,g⟩,i⟩,j⟩,k⟩,l⟩:=h;refine⟨?_,c,e,g,l,j⟩;unfold dw at a;simp only[xN,beq_iff_eq]at a;omega
structure aX(lt:List Ae)(lo:List Ab):Prop where
 tn:1<=lt.length/\lt.length<=9
 on:1<=lo.length/\lo.length<=271
 data:∀x∈lo,x.data.size<=maxLen
 id:∀x∈lo,0<=x.id/\x.id<=1000000
 thr:∀x∈lt,Cf x.own.n x.own.h=true/\Bb x.b1 x.c1.n x.c1.f x.c1.g=true
theorem aX.of{lt:List Ae}{lo:List Ab}(h:okL lt lo=true):aX lt lo:=⟨Gh h,Er h,Cx h,Iv h,fun x hx=>⟨(FK h x hx).own,(FK h x hx).l1⟩⟩
end Go.Proofs.YtdaccbddcjlkpaaGreatDoor
