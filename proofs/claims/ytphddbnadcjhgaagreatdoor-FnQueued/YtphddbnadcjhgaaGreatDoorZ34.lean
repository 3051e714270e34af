import Derived.Test.YtphddbnadcjhgaaGreatDoorProg
import Derived.Shelf.Strings.OnBuilder
import Derived.Shelf.Strings.Builder1
import Derived.Shelf.Strings.BuilderF
import Derived.Shelf.Strconv.Itoa4
import Derived.Shelf.Strconv.Clone
import Derived.Shelf.LaysM
import Derived.Shelf.Lays
import Derived.Ground.NamesProg
import Derived.Test.YtphddbnadcjhgaaGreatDoorZ8
import Derived.Test.YtphddbnadcjhgaaGreatDoorZ0
import Derived.Lib.AppendIntMem
import Derived.Test.YtphddbnadcjhgaaGreatDoorZ32
import Derived.Test.YtphddbnadcjhgaaGreatDoorNU1
import Derived.Test.YtphddbnadcjhgaaGreatDoorZ4
import Derived.Test.YtphddbnadcjhgaaGreatDoorZ11
import Derived.Test.YtphddbnadcjhgaaGreatDoorZ33
import Derived.Test.YtphddbnadcjhgaaGreatDoorNE2
import Derived.Test.YtphddbnadcjhgaaGreatDoorZ26
import Derived.Test.YtphddbnadcjhgaaGreatDoorZ28
import Derived.Test.YtphddbnadcjhgaaGreatDoorZ14
import Derived.Test.YtphddbnadcjhgaaGreatDoorND2
set_option maxRecDepth 100000
set_option maxHeartbeats 16000000
namespace Go.Proofs.YtphddbnadcjhgaaGreatDoor
open Go.Shelf Go.Proofs.Tryz
def Tryz.joinA_ren:Go.Shelf.Ren:=⟨fun|156=>141|165=>158|166=>159|169=>160|240=>183|241=>184|276=>196|277=>197|n=>n,fun|31=>37|9=>9|3=>3|4=>4|0=>0|20=>20|72=>218|76=>220|70=>216|37=>22|75=>49|127=>243|164=>97|5=>5|80=>83|n=>n,fun|n=>n⟩
theorem Tryz.joinA:Go.Proofs.Lays.n156 prog Tryz.joinA_ren:={
 mixed:=by kernel_rfl
 f156:=func141.trans (congrArg some (by kernel_rfl))
 f165:=func158.trans (congrArg some (by kernel_rfl))
 f166:=func159.trans (congrArg some (by kernel_rfl))
 f169:=func160.trans (congrArg some (by kernel_rfl))
 f240:=func183.trans (congrArg some (by kernel_rfl))
 f241:=func184.trans (congrArg some (by kernel_rfl))
 f276:=func196.trans (congrArg some (by kernel_rfl))
 f277:=func197.trans (congrArg some (by kernel_rfl))
 t0:=underlying0
 a0:=isAgg0
 z0:=sizeOf0
 v0:=zeroValue0
 t3:=underlying3
 a3:=isAgg3
 z3:=sizeOf3
 v3:=zeroValue3
 t4:=underlying4
 a4:=isAgg4
 z4:=sizeOf4
 v4:=zeroValue4
 t9:=underlying9
 a9:=isAgg9
 z9:=sizeOf9
 v9:=zeroValue9
 t20:=underlying20
 a20:=isAgg20
 z20:=sizeOf20
 v20:=zeroValue20
 t31:=underlying37
 a31:=isAgg37
 z31:=sizeOf37
 v31:=zeroValue37
 t37:=underlying22
 a37:=isAgg22
 z37:=sizeOf22
 v37:=zeroValue22
 t70:=underlying216
 a70:=isAgg216
 z70:=sizeOf216
 v70:=zeroValue216
 t72:=underlying218
 a72:=isAgg218
 z72:=sizeOf218
 v72:=zeroValue218
 t75:=underlying49
 a75:=isAgg49
 z75:=sizeOf49
 v75:=zeroValue49
 t76:=underlying220
 a76:=isAgg220
 z76:=sizeOf220
 v76:=zeroValue220
 t127:=underlying243
 a127:=isAgg243
 z127:=sizeOf243
 v127:=zeroValue243
 t164:=underlying97
 a164:=isAgg97
 z164:=sizeOf97
 v164:=zeroValue97}
def Tryz.fmtA_ren:Go.Shelf.Ren:=⟨fun|173=>132|246=>143|283=>170|284=>171|285=>172|286=>173|129=>153|317=>188|318=>189|319=>190|320=>191|337=>199|338=>200|n=>n,fun|2=>2|3=>3|9=>9|4=>4|171=>229|0=>0|53=>158|37=>22|5=>5|173=>231|212=>247|51=>209|20=>20|213=>248|46=>160|232=>257|233=>258|n=>n,fun|17=>14|18=>16|19=>17|n=>n⟩
theorem Tryz.fmtA:Go.Proofs.LaysM.n173 prog Tryz.fmtA_ren:={
 mixed:=by kernel_rfl
 f129:=func153.trans (congrArg some (by kernel_rfl))
 f173:=func132.trans (congrArg some (by kernel_rfl))
 f246:=func143.trans (congrArg some (by kernel_rfl))
 f283:=func170.trans (congrArg some (by kernel_rfl))
 f284:=func171.trans (congrArg some (by kernel_rfl))
 f285:=func172.trans (congrArg some (by kernel_rfl))
 f286:=func173.trans (congrArg some (by kernel_rfl))
 f317:=func188.trans (congrArg some (by kernel_rfl))
 f318:=func189.trans (congrArg some (by kernel_rfl))
 f319:=func190.trans (congrArg some (by kernel_rfl))
 f320:=func191.trans (congrArg some (by kernel_rfl))
 f337:=func199.trans (congrArg some (by kernel_rfl))
 f338:=func200.trans (congrArg some (by kernel_rfl))
 t0:=underlying0
 a0:=isAgg0
 z0:=sizeOf0
 v0:=zeroValue0
 t2:=underlying2
 a2:=isAgg2
 z2:=sizeOf2
 v2:=zeroValue2
 t3:=underlying3
 a3:=isAgg3
 z3:=sizeOf3
 v3:=zeroValue3
 t4:=underlying4
 a4:=isAgg4
 z4:=sizeOf4
 v4:=zeroValue4
 t5:=underlying5
 a5:=isAgg5
 z5:=sizeOf5
 v5:=zeroValue5
 t9:=underlying9
 a9:=isAgg9
 z9:=sizeOf9
 v9:=zeroValue9
 t20:=underlying20
 a20:=isAgg20
 z20:=sizeOf20
 v20:=zeroValue20
 t37:=underlying22
 a37:=isAgg22
 z37:=sizeOf22
 v37:=zeroValue22
 t46:=underlying160
 a46:=isAgg160
 z46:=sizeOf160
 v46:=zeroValue160
 t51:=underlying209
 a51:=isAgg209
 z51:=sizeOf209
 v51:=zeroValue209
 t53:=underlying158
 a53:=isAgg158
 z53:=sizeOf158
 v53:=zeroValue158
 t171:=underlying229
 a171:=isAgg229
 z171:=sizeOf229
 v171:=zeroValue229
 t173:=underlying231
 a173:=isAgg231
 z173:=sizeOf231
 v173:=zeroValue231
 t212:=underlying247
 a212:=isAgg247
 z212:=sizeOf247
 v212:=zeroValue247
 t213:=underlying248
 a213:=isAgg248
 z213:=sizeOf248
 t232:=underlying257
 a232:=isAgg257
 z232:=sizeOf257
 v232:=zeroValue257
 t233:=underlying258
 a233:=isAgg258
 z233:=sizeOf258
 v233:=zeroValue258
 g17:=by kernel_rfl
 g18:=by kernel_rfl
 g19:=by kernel_rfl
 i0:=by kernel_rfl
 i2:=by kernel_rfl
 i3:=by kernel_rfl
 i4:=by kernel_rfl
 i5:=by kernel_rfl
 i9:=by kernel_rfl
 i20:=by kernel_rfl
 i37:=by kernel_rfl
 i46:=by kernel_rfl
 i51:=by kernel_rfl
 i53:=by kernel_rfl
 i171:=by kernel_rfl
 i173:=by kernel_rfl
 i212:=by kernel_rfl
 i232:=by kernel_rfl
 i233:=by kernel_rfl
 m17:=by kernel_rfl
 m18:=by kernel_rfl
 m19:=by kernel_rfl}
theorem Tryz.Builder_Extra_156:Builder.Extra prog Tryz.joinA_ren:={
 sizeBuilder:=by kernel_rfl
 liesBuilder:=by kernel_rfl
 t5:=underlying5
 a5:=isAgg5
 z5:=sizeOf5
 v5:=zeroValue5
 infoByte:=by kernel_rfl
 cellsByte:=by kernel_rfl
 sizeByte:=by kernel_rfl
 neB5:=by decide}
open Go.RowKit Go.Sort Go.Lib in
theorem Tryz.strconv_FormatInt_10(n:Int)(h0: -9223372036854775808<=n)(h1:n<=9223372036854775807)(w:World)(htab:Lib.TabIs prog w "internal/strconv.uint64pow10" .u64 Lib.pow10Tab):
 Calls prog 132 #[.int .i64 n,.int .i64 10] w fun e w'=>e= .returned (.string ⟨(Lib.itoa n).toArray⟩)/\∃k os,w'=grow (w.drewN k) os:=Any.strconv_FormatInt_10 Tryz.fmtA n h0 h1 w htab
open Go.RowKit in
theorem Tryz.strings_Join(bk o c:Nat)(xs:List ByteArray)(sep:ByteArray)(w:World)
 (hcells:∀(j:Nat) x,xs[j]? =some x->w.cell? ⟨bk,o+j,none⟩=some (.string x))
 (hbk:bk<w.heap.size)(hN:xs.length<=140737488355328)(hcap:xs.length<=c)
 (hlen:(Lib.join (xs.map (·.data.toList)) sep.data.toList).length<=140737488355328):
 Calls prog 141 #[.slice (some ⟨bk,o,none⟩) xs.length c,.string sep] w fun e w'=>e= .returned (.string ⟨(Lib.join (xs.map (·.data.toList)) sep.data.toList).toArray⟩)/\Below w.heap.size w w':=Any.strings_Join Tryz.joinA Tryz.Builder_Extra_156 bk o c xs sep w hcells hbk hN hcap hlen
open Go.RowKit Go.Deep Go.Maps
theorem Wl(n:Nat):Lib.decDigits n=Cu n:=by
 induction n using Nat.strongRecOn with
 |_ n ih=>
  by_cases h:n<10
  ·rw[Gk h,Lib.decDigits,dif_pos h]
  ·rw[Jw h,Lib.decDigits,dif_neg h,ih (n/10) (by omega)]
def TZ(w:World):Prop:=Lib.TabIs prog w "internal/strconv.uint64pow10" .u64 Lib.pow10Tab
theorem Tryz.tabSome:(prog.globalNamed "internal/strconv.uint64pow10").isSome=true:=by kernel_rfl
theorem Tryz.tabNamed:∃g,prog.globalNamed "internal/strconv.uint64pow10" =some g:=Option.isSome_iff_exists.1 Tryz.tabSome
theorem TZ.below{w w':World}(h:TZ w)(hb:Below w.heap.size w w'):TZ w':=by
 obtain⟨g,hg⟩:=Tryz.tabNamed;unfold TZ Lib.TabIs at *;refine var?_below hb hg ?_ h;rcases Nat.lt_or_ge g w.heap.size with h'|h'
 ·exact h'
 ·exfalso;simp[World.var?,hg,Array.getElem?_eq_none h']at h
theorem Q7(x:Int)(w:World)(h0:0<=x)(h1:x<=10000000000)(ht:TZ w):
 Calls prog 105 #[.int .i64 x] w fun e w'=>e= .returned (.string ⟨(Cu x.toNat).toArray⟩)/\Below w.heap.size w w':=by
 go_enter func105,ntmps105
 go_wp2_with fail
 refine(Tryz.strconv_FormatInt_10 x (by omega) (by omega) w ht).mono ?_;rintro e w' ⟨rfl,k,os,rfl⟩;have e1:Lib.itoa x=Cu x.toNat:=by
  unfold Lib.itoa;rw[if_neg (by omega),Wl]
 have hb:Below w.heap.size w (Sort.grow (w.drewN k) os):=Lib.below_grow _ w (Nat.le_refl _) k os;rw[e1];generalize Sort.grow (w.drewN k) os=W at *;go_wp2;go_ret;exact⟨rfl,hb⟩
open Go Go.BigFrame
def IB(l:List Int)(i:Nat):ByteArray:=⟨(Cu (AM l i).toNat).toArray⟩
theorem Vz(sep:List UInt8)(r:List (List UInt8))(x:List UInt8):Lib.joinTail sep (r++[x])=Lib.joinTail sep r++(sep++x):=by simp[Lib.joinTail]
theorem UO{r:List (List UInt8)}(h:r≠[])(x sep:List UInt8):Lib.join (r++[x]) sep=Lib.join r sep++sep++x:=by
 cases r with
 |nil=>exact absurd rfl h
 |cons y r=>rw[List.cons_append,Lib.join_cons,Lib.join_cons,Vz];simp
theorem RN(l:List Int):∀n,(OF (AM l) n).data.toList=Lib.join (((List.range n).map (IB l)).map (·.data.toList)) [32]
 |0=>rfl
 |n+1=>by
  have ih:=RN l n;rw[List.range_succ,List.map_append,List.map_append];by_cases h:0<n
  ·rw[show([n].map (IB l)).map (·.data.toList)=[Cu (AM l n).toNat] from by simp[IB]];rw[UO (by simp;omega),<-ih];simp[OF,h]
  ·have e:n=0:=(by omega);subst e;simp[OF,IB,Lib.join,List.intercalate]
theorem own_below{w w':World}{B e size n:Nat}{v:Value}{xs:List Value}(h:w.ownsRow B e size v n xs)(hb:Below w w w'):w'.ownsRow B e size v n xs:=by
 refine⟨h.1,?_⟩;rcases h.2 with h2|⟨g,cap,cur,hv,h1,h2,h3,h4,h5,h6⟩
 ·exact .inl h2
 ·refine .inr ⟨g,cap,cur,hv,h1,?_,h3,h4,h5,h6⟩;rw[hb.block g (by rcases Nat.lt_or_ge g w with h|h;exact h;simp[Array.getElem?_eq_none h]at h2)];exact h2
theorem Xo{x:Int}(h:x.toNat<=1000000):(⟨(Cu x.toNat).toArray⟩:ByteArray).size<=1000001:=by
 have h1:=E8 x.toNat;show(Cu x.toNat).toArray.size<=_;simp;omega
theorem UC(a:Option Addr)(k:Nat)(x:Value)(w:World):Calls prog 141 #[.slice a 0 k,x] w fun e w'=>e= .returned (.string ⟨#[]⟩)/\Below w w w':=by
 go_enter func141,ntmps141
 go_wp2;go_ret;exact⟨rfl,Below.refl _ _⟩
theorem WU(w:World)(B P:Nat)(s:Al)(g ca q co:Nat)(lt:List Ac)(lo:List Ab)(t c C:Nat)(nb:Nat->Nat)(kv:Nat->Value)(K:Nat->List Int)(h:Gh w B P s g ca q co lt lo t (.map (some c)))(hN:Dz w C c lo.length (fun i=>(Aa lo i).id) q 0 nb kv K)(hB:B<=w.heap.size)(u:Nat)(hu:u<lo.length)(O:Ab)(hO:O=lo[u])(hd:∀x∈lo,x.data.size<=maxLen)(hf:Gx lo O.id=some u)(hi:(Lit.int .i64 O.id).wf=true)(KL:List Int)(hK:K u=KL)(hn:KL.length<=1000)(hx:∀x∈KL,0<=x/\x<=1000000)(tab:TZ w):
 Calls prog 124 #[.pointer (some ⟨P,0,none⟩),.agg #[.pointer (some ⟨q,u*10,none⟩)]] w fun e w'=>e= .returned (.string (OF (AM KL) KL.length))/\Gh w' B P s g ca q co lt lo t (.map (some c))/\Below B w w':=by
 obtain⟨CO,ql⟩:=h.st.cell10 hu hd;rw[<-hO]at CO;have n2:Nw (w.alloc (.cells #[.pointer (some ⟨q,u*10,none⟩)] 181)):=⟨⟩;have b0:Below w w n2:=(Below.refl _ w).alloc (Nat.le_refl _) _;have c0:(n2:World).cell? ⟨w,0,none⟩=some (.pointer (some ⟨q,u*10,none⟩)):=by go_simp
 have ow:=hN.own u hu;rw[hK]at ow;obtain⟨ka,kc,ekv⟩:=Ax.form ow;have ND:=hN.below b0.drew;have bk:=ND.blk u hu;rw[Nat.zero_add,ekv]at bk;have LK:=ND.map.look hi;rw[show Bg (fun i=>(Aa lo i).id) lo.length O.id=some u from hf]at LK;simp only[Option.map_some]at LK;obtain⟨n0,n1⟩:=bk.two;obtain⟨_,_,_,_,c13⟩:=(h.wk.below b0.drew).work;have z0:(n2:World).drew.cell? ⟨w,0,none⟩=some (.pointer (some ⟨q,u*10,none⟩)):=c0;have z1:(n2:World).drew.cell? ⟨q,u*10,none⟩=some (.int .i64 O.id):=(CO.below ql b0.drew).c0;have HW:=hid h;have OW:Hid (Ax w C (.slice ka KL.length kc) KL):=hid (by rw[<-ekv];exact ow);have HX:=hid hx;have TB:=hid tab;have B0:=hid b0.drew;clear h hN hO CO ow ekv ND hK hx tab hf c0 b0 bk hd;go_enter func124,ntmps124
 go_upto_region 2 with fail
 go_cut[21,22,23] from 8 (fun x y z wc=>x= .slice ka KL.length kc/\y= .int .i64 KL.length/\z= .int .i64 0/\wc=(n2:World).drew)
 case first=>
  go_region_law fail
  all_goals(
   go_wp2_with fail
   go_meet;case rel=>exact⟨rfl,rfl,rfl,rfl⟩)
 case rest=>
  obtain⟨rfl,rfl,rfl,rfl⟩:=hcut;clear n0 n1 LK c13 z0 z1;go_wp2;go_loopw [5,23] (fun v i wr=>∃(j:Nat) (a:Option Addr) (cc:Nat),j<=KL.length/\i= .int .i64 j/\v= .slice a j cc/\Hid (Ew wr w (.slice a j cc) j (IB KL))/\Hid (Below w w wr)) (fun _ i _=>KL.length-(intOf i).toNat)
  case atStart=>exact⟨0,none,0,Nat.zero_le _,rfl,rfl,hid (World.ownsRow_nil _ _ _ _),B0⟩
  case round=>
   obtain⟨j,a,cc,hj,rfl,rfl,OS,BW⟩:=hrel;by_cases hlt:j<KL.length
   ·have i1:(j:Int)<(KL.length:Int):=(by omega);have i0:(0:Int)<=(j:Int):=(by omega);obtain⟨kb,ko,ea,kl,kcc⟩:=(Ax.lies OW).ints (by omega);have kcell:=(BW.out.cell (p:=⟨kb,ko+j,none⟩) kl).trans (kcc j hlt);rw[ea];have xm:AM KL j∈KL:=(by unfold AM;rw[List.getD_eq_getElem?_getD,List.getElem?_eq_getElem hlt];exact List.getElem_mem hlt);have xb:=HX.out _ xm;have DC:=hid (Q7 (AM KL j) wr xb.1 (by omega) (TB.out.below BW));have SZ:Hid ((IB KL j).size<=maxLen):=hid (by have:=Xo (x:=AM KL j) (by omega);show(⟨(Cu (AM KL j).toNat).toArray⟩:ByteArray).size<=maxLen;unfold maxLen;omega);clear kcc xm;go_wp2_with fail
    refine DC.out.mono ?_;rintro e w1 ⟨rfl,b1⟩;have O1:=hid (own_below OS b1);have B1:=hid (Af BW b1);have BA:=(Below.refl _ w1).alloc (Nat.le_refl _) (.cells #[.string ⟨(Cu (AM KL j).toNat).toArray⟩] 9);have O2:=hid (own_below O1 BA);have B2:=hid (Af B1 BA);have L2:=hid (Ih w1 ⟨(Cu (AM KL j).toNat).toArray⟩);have s2:=B2.out.size;clear b1 BA DC kcell;go_wp2_with(refine Bl underlying37 Tryz.info9 rfl (by omega) _ rfl _ _ rfl w (.slice a j cc) j (If j (IB KL)) rfl O2 (some ⟨w1,0,none⟩) 1 1 [.string ⟨(Cu (AM KL j).toNat).toArray⟩] rfl rfl L2 (fun u hu=>by simp at hu;subst hu;rfl) (by omega) (by omega) s2 ?_;intro a3 c3 w3 o3 g3)
    have O3:Hid (Ew w3 w (.slice a3 (j+1) c3) (j+1) (IB KL)):=hid (by
     have e:If (j+1) (IB KL)=If j (IB KL)++[.string ⟨(Cu (AM KL j).toNat).toArray⟩]:=(by unfold If;rw[List.range_succ];simp[IB]);rw[<-e]at o3;exact o3)
    have B3:Hid (Below w w w3):=hid (B2.out.trans (below_grown g3 B2.out.size (fun j e=>(World.ownsRow.lt O2 j e).1)));clear o3 g3;go_roundw;case rel=>exact⟨j+1,a3,c3,by omega,by go_num,rfl,O3,B3⟩
    case measure=>simp[intOf];omega
   ·have ej:j=KL.length:=(by omega);have i1:¬(j:Int)<(KL.length:Int):=(by omega);subst ej;by_cases h0:0<KL.length
    ·obtain⟨gb,mm,F,ea,hb1,hb2,hr⟩:=CM OS h0;subst ea;obtain⟨b',off,e',hlt',hcc⟩:=Bn.own OS h0;cases e';have lw:=hr.lt;have JS:((OF (AM KL) KL.length).size)<=KL.length*1000002:=Pq (fun i hi=>by
      have hi':=HX.out (AM KL i) (by unfold AM;rw[List.getD_eq_getElem?_getD,List.getElem?_eq_getElem hi];exact List.getElem_mem hi);omega)
     have JJ:=hid (RN KL KL.length);have JN:Hid (Calls prog 141 #[.slice (some ⟨gb,0,none⟩) KL.length cc,.string ⟨#[32]⟩] wr fun e w'=>e= .returned (.string (OF (AM KL) KL.length))/\Below wr wr w'):=hid (by
      have el:((List.range KL.length).map (IB KL)).length=KL.length:=(by simp);have jl:(Lib.join (((List.range KL.length).map (IB KL)).map (·.data.toList)) [32]).length=(OF (AM KL) KL.length).size:=by
       rw[<-JJ.out];exact Array.length_toList
      have:=Tryz.strings_Join gb 0 cc ((List.range KL.length).map (IB KL)) ⟨#[32]⟩ wr (fun i x hx'=>hcc i (.string x) (by
       have hil:i<KL.length:=by
        have:=(List.getElem?_eq_some_iff.1 hx').1;simpa using this
       simp[hil]at hx';subst hx';simp[If,hil])) lw (by rw[el];omega) (by rw[el];exact(Ep OS).1) (by
        show(Lib.join (((List.range KL.length).map (IB KL)).map (·.data.toList)) [32]).length<=_;rw[jl];omega)
      rw[el]at this;refine this.mono ?_;rintro e w' ⟨rfl,hb⟩;refine⟨?_,hb⟩;have e2:(⟨(Lib.join (((List.range KL.length).map (IB KL)).map (·.data.toList)) (⟨#[32]⟩:ByteArray).data.toList).toArray⟩:ByteArray)=OF (AM KL) KL.length:=by
       have:(Lib.join (((List.range KL.length).map (IB KL)).map (·.data.toList)) (⟨#[32]⟩:ByteArray).data.toList)=(OF (AM KL) KL.length).data.toList:=JJ.out.symm;rw[this]
      rw[e2])
     clear hcc hr lw JS;go_wp2_with fail
     refine JN.out.mono ?_;rintro e w1 ⟨rfl,b1⟩;have B1:=hid (Af BW b1);clear b1;go_wp2;go_ret;exact⟨rfl,HW.out.below B1,B1.out.mono hB⟩
    ·have e0:KL=[]:=List.eq_nil_of_length_eq_zero (by omega);subst e0;have SH:=OS.out.2;have en:a=none∨∃gb,a=some ⟨gb,0,none⟩:=by
      rcases SH with⟨hv,_⟩|⟨gb,cap,cur,hv,_⟩
      ·left;cases hv;rfl
      ·right;cases hv;exact⟨gb,rfl⟩
     clear SH;have JN:=hid (UC a cc (.string ⟨#[32]⟩) wr);go_wp2_with fail
     refine JN.out.mono ?_;rintro e w1 ⟨rfl,b1⟩;have B1:=hid (Af BW b1);clear b1;go_wp2;go_ret;exact⟨rfl,HW.out.below B1,B1.out.mono hB⟩
theorem SI(k:Int)(w:World):Calls prog 121 #[.int .i64 k] w fun e w'=>e= .returned (.bool (k==6||k==9||k==10))/\Below w w w':=by
 by_cases h0:k=6
 ·subst h0;go_enter func121,ntmps121
  go_wp2;go_ret;exact⟨by simp,Below.refl _ _⟩
 ·have b0:(k==6)=false:=by simpa using h0
  by_cases h1:k=9
  ·subst h1;go_enter func121,ntmps121
   go_wp2;go_ret;exact⟨by simp,Below.refl _ _⟩
  ·have b1:(k==9)=false:=(by simpa using h1);by_cases h2:k=10
   ·subst h2;go_enter func121,ntmps121
    go_wp2;go_ret;exact⟨by simp,Below.refl _ _⟩
   ·have b2:(k==10)=false:=(by simpa using h2);go_enter func121,ntmps121
    go_wp2;go_ret;exact⟨by simp[h0,h1,h2],Below.refl _ _⟩
theorem JP(v:Value)(k:Int)(w:World):Calls prog 236 #[.agg #[v],.int .i64 k] w fun e w'=>e= .returned (.bool (k==6||k==7||k==8))/\Below w w w':=by
 by_cases h0:k=6
 ·subst h0;go_enter func236,ntmps236
  go_wp2;go_ret;exact⟨by simp,(Below.refl _ w).alloc (Nat.le_refl _) _⟩
 ·have b0:(k==6)=false:=by simpa using h0
  by_cases h1:k=7
  ·subst h1;go_enter func236,ntmps236
   go_wp2;go_ret;exact⟨by simp,(Below.refl _ w).alloc (Nat.le_refl _) _⟩
  ·have b1:(k==7)=false:=(by simpa using h1);by_cases h2:k=8
   ·subst h2;go_enter func236,ntmps236
    go_wp2;go_ret;exact⟨by simp,(Below.refl _ w).alloc (Nat.le_refl _) _⟩
   ·have b2:(k==8)=false:=(by simpa using h2);go_enter func236,ntmps236
    go_wp2;go_ret;exact⟨by simp[h0,h1,h2],(Below.refl _ w).alloc (Nat.le_refl _) _⟩
theorem LF(v:Value)(k:Int)(w:World):Calls prog 237 #[.agg #[v],.int .i64 k] w fun e w'=>e= .returned (.bool (k==9||k==10))/\Below w w w':=by
 by_cases h0:k=9
 ·subst h0;go_enter func237,ntmps237
  go_wp2;go_ret;exact⟨by simp,(Below.refl _ w).alloc (Nat.le_refl _) _⟩
 ·have b0:(k==9)=false:=by simpa using h0
  by_cases h1:k=10
  ·subst h1;go_enter func237,ntmps237
   go_wp2;go_ret;exact⟨by simp,(Below.refl _ w).alloc (Nat.le_refl _) _⟩
  ·have b1:(k==10)=false:=(by simpa using h1);go_enter func237,ntmps237
   go_wp2;go_ret;exact⟨by simp[h0,h1],(Below.refl _ w).alloc (Nat.le_refl _) _⟩
theorem NJ(v:Value)(k:Int)(w:World):Calls prog 238 #[.agg #[v],.int .i64 k] w fun e w'=>e= .returned (.bool (k==15))/\Below w w w':=by
 by_cases h0:k=15
 ·subst h0;go_enter func238,ntmps238
  go_wp2;go_ret;exact⟨by simp,(Below.refl _ w).alloc (Nat.le_refl _) _⟩
 ·have b0:(k==15)=false:=by simpa using h0
  go_enter func238,ntmps238
  go_wp2;go_ret;exact⟨by simp[h0],(Below.refl _ w).alloc (Nat.le_refl _) _⟩
theorem Mt(v:Value)(k:Int)(w:World):Calls prog 239 #[.agg #[v],.int .i64 k] w fun e w'=>e= .returned (.bool (k==13))/\Below w w w':=by
 by_cases h0:k=13
 ·subst h0;go_enter func239,ntmps239
  go_wp2;go_ret;exact⟨by simp,(Below.refl _ w).alloc (Nat.le_refl _) _⟩
 ·have b0:(k==13)=false:=by simpa using h0
  go_enter func239,ntmps239
  go_wp2;go_ret;exact⟨by simp[h0],(Below.refl _ w).alloc (Nat.le_refl _) _⟩
theorem Lp(d:Array Int)(hs:∀i j,i<=j->j<d.size->d[i]!<=d[j]!):∀m,m<=d.size->(Lib.compactUpTo d m).Pairwise (· <·)/\∀x,x∈Lib.compactUpTo d m↔∃i,i<m/\x=d[i]!
 |0,_=>⟨by simp[Lib.compactUpTo],by simp[Lib.compactUpTo]⟩
 |m+1,hm=>by
  obtain⟨h1,h2⟩:=Lp d hs m (by omega);rw[Lib.compactUpTo_succ];by_cases h0:m=0
  ·subst h0;simp[Lib.compactUpTo,Lib.keeps]
  ·by_cases he:d[m]! =d[m-1]!
   ·rw[Lib.keeps_neg (by omega) he];simp only[Bool.false_eq_true,if_false,List.append_nil];refine⟨h1,fun x=>?_⟩;rw[h2];constructor
    ·rintro⟨i,hi,e⟩;exact⟨i,by omega,e⟩
    ·rintro⟨i,hi,e⟩;by_cases e1:i=m
     ·subst e1;exact⟨i-1,by omega,by rw[e,he]⟩
     ·exact⟨i,by omega,e⟩
   ·rw[Lib.keeps_pos he];simp only[if_true];refine⟨?_,fun x=>?_⟩
    ·rw[List.pairwise_append];refine⟨h1,by simp,fun a ha b hb=>?_⟩;obtain⟨i,hi,rfl⟩:=(h2 a).1 ha;simp at hb;subst hb;have a1:=hs i (m-1) (by omega) (by omega);have a2:=hs (m-1) m (by omega) (by omega);omega
    ·rw[List.mem_append,h2];simp only[List.mem_singleton];constructor
     ·rintro(⟨i,hi,e⟩|e)
      ·exact⟨i,by omega,e⟩
      ·exact⟨m,by omega,e⟩
     ·rintro⟨i,hi,e⟩;by_cases e1:i=m
      ·subst e1;exact .inr e
      ·exact .inl ⟨i,by omega,e⟩
theorem Wm(l:List Int):(Ct l).Pairwise (· <=·):=by
 have:=List.pairwise_mergeSort (le:=fun(x y:Int)=>decide (x<=y)) (fun a b c h1 h2=>by simp at *;omega) (fun a b=>by simp;omega) l;exact this.imp (fun h=>by simpa using h)
theorem Pu(l:List Int):(Lib.compact (Ct l)).Pairwise (· <·)/\∀x,x∈Lib.compact (Ct l)↔x∈l:=by
 have h:=Lp (Ct l).toArray (fun i j hij hj=>by
  simp only[List.size_toArray]at hj;by_cases e:i=j
  ·subst e;exact Int.le_refl _
  ·have:=List.pairwise_iff_getElem.1 (Wm l) i j (by omega) hj (by omega);simpa[getElem!_pos,hj,show i<(Ct l).length by omega]using this) (Ct l).length (by simp)
 refine⟨h.1,fun x=>?_⟩;unfold Lib.compact;rw[h.2,<-Kc (l:=l)];constructor
 ·rintro⟨i,hi,rfl⟩;have:(Ct l).toArray[i]! =(Ct l)[i]:=by simp[getElem!_pos,hi]
  rw[this];exact List.getElem_mem hi
 ·intro hx;obtain⟨i,hi,rfl⟩:=List.getElem_of_mem hx;exact⟨i,hi,by simp[getElem!_pos,hi]⟩
theorem Lt{L:List Int}{h:Nat->Int}(hL:L.Pairwise (· <·)):∀q,(DG L h q).Pairwise (· <·)
 |0=>hL
 |q+1=>I4 (Lt hL q)
theorem Ov{L:List Int}{h:Nat->Int}(x:Int):∀q,x∈DG L h q↔x∈L∨∃i,i<q/\x=h i
 |0=>by simp[DG]
 |q+1=>by
  simp only[DG];rw[Uk,Ov x q];constructor
  ·rintro((a|⟨i,hi,e⟩)|e)
   ·exact .inl a
   ·exact .inr ⟨i,by omega,e⟩
   ·exact .inr ⟨q,by omega,e⟩
  ·rintro(a|⟨i,hi,e⟩)
   ·exact .inl (.inl a)
   ·by_cases e1:i=q
    ·subst e1;exact .inr e
    ·exact .inl (.inr ⟨i,by omega,e⟩)
theorem Sj{L:List Int}(hL:L.Pairwise (· <·))(h:Nat->Int)(n:Nat):Lib.compact (Ct (L++(List.range n).map h))=DG L h n:=by
 obtain⟨a,b⟩:=Pu (L++(List.range n).map h);refine Ni a (Lt hL n) (fun x=>?_);rw[b,Ov,List.mem_append,List.mem_map];simp only[List.mem_range];constructor
 ·rintro(c|⟨i,hi,e⟩)
  ·exact .inl c
  ·exact .inr ⟨i,hi,e.symm⟩
 ·rintro(c|⟨i,hi,e⟩)
  ·exact .inl c
  ·exact .inr ⟨i,hi,e.symm⟩
theorem X5{b:Int}{c:Av}{o:AI}{b':Int}{c':Av}{W:World}(hc:c.at W)(ho:o.at W)(hc':c'.at W)(l1:AH b c.n c.f c.g=true)(l2:Bu o.n o.h=true)(l3:AH b' c'.n c'.f c'.g=true):
 Calls prog 116 #[.agg #[.int .i64 b,.slice c.a c.n c.k],.slice o.a o.n o.k,.agg #[.int .i64 b',.slice c'.a c'.n c'.k]] W fun e w'=>e= .returned (.bool (Fc b c o b' c'))/\Below W W w':=by
 have h:=GV b c.a c.n c.k c.f c.g o.a o.n o.k o.h b' c'.a c'.n c'.k c'.f c'.g W hc.1 hc'.1 ho.1 hc.2 hc'.2 ho.2;refine h.mono ?_;rintro e w' ⟨rfl,hb⟩;refine⟨?_,hb⟩;unfold Fc Cy;simp[l1,l2,l3]
theorem QZ{X:Ac}(h:Nf X):De X.id X.made X.b1 X.c1.n X.c1.f X.c1.g X.b2 X.c2.n X.c2.f X.c2.g X.own.n X.own.h=true:=Hh.2 h
theorem Zn{X:Ac}{b:Int}{c:Av}{W:World}(hX:X.at W)(hc:c.at W)(hF:Nf X)(l:AH b c.n c.f c.g=true):
 Calls prog 120 #[.agg #[X.id,X.b1,.slice X.c1.a X.c1.n X.c1.k,X.b2,.slice X.c2.a X.c2.n X.c2.k,.slice X.own.a X.own.n X.own.k,X.made],.agg #[.int .i64 b,.slice c.a c.n c.k]] W fun e w'=>e= .returned (.bool (Gl X b c))/\Below W W w':=by
 refine(JY X.id X.made X.b1 X.c1.a X.c1.n X.c1.k X.c1.f X.c1.g X.b2 X.c2.a X.c2.n X.c2.k X.c2.f X.c2.g X.own.a X.own.n X.own.k X.own.h b c.a c.n c.k c.f c.g W hX.1.1 hX.2.1.1 hX.2.2.1 hX.1.2 hX.2.1.2 hX.2.2.2 hc.1 hc.2).mono ?_;rintro e w' ⟨rfl,hb⟩;refine⟨?_,hb⟩;unfold Lm Gl;rw[QZ hF,l];simp
theorem Ve{X:Ac}{b:Int}{c:Av}{W:World}(hX:X.at W)(hc:c.at W)(hF:Nf X)(l:AH b c.n c.f c.g=true):
 Calls prog 112 #[.agg #[X.id,X.b1,.slice X.c1.a X.c1.n X.c1.k,X.b2,.slice X.c2.a X.c2.n X.c2.k,.slice X.own.a X.own.n X.own.k,X.made],.agg #[.int .i64 b,.slice c.a c.n c.k]] W fun e w'=>e= .returned (.bool (Ao X b c))/\Below W W w':=by
 refine(Lu X.id X.made X.b1 X.c1.a X.c1.n X.c1.k X.c1.f X.c1.g X.b2 X.c2.a X.c2.n X.c2.k X.c2.f X.c2.g X.own.a X.own.n X.own.k X.own.h b c.a c.n c.k c.f c.g W hX.1.1 hX.2.1.1 hX.2.2.1 hX.1.2 hX.2.1.2 hX.2.2.2 hc.1 hc.2).mono ?_;rintro e w' ⟨rfl,hb⟩;refine⟨?_,hb⟩;unfold JU Lm M6 Ao Gl;rw[QZ hF,l];simp
theorem Zb{n:Nat}{h:Nat->Int}(e:Bu n h=true):∀i j,i<j->j<n->h i<h j:=by
 obtain⟨_,ha⟩:=On e;have one:∀j,0<j->j<n->h (j-1)<h j:=fun j h0 hj=>by
  have:=ha j hj;unfold Dk at this;simp only[Bool.and_eq_true,Bool.or_eq_true,beq_iff_eq,decide_eq_true_eq]at this;rcases this.2 with h|h
  ·omega
  ·exact h
 intro i j hij hj;induction j with
 |zero=>omega
 |succ j ih=>
  have h1:=one (j+1) (by omega) hj;simp only[Nat.add_sub_cancel]at h1;by_cases e:i=j
  ·subst e;exact h1
  ·have:=ih (by omega) (by omega);omega
theorem WO{n:Nat}{h:Nat->Int}(e:Bu n h=true):((List.range n).map h).Pairwise (· <·):=by
 rw[List.pairwise_iff_getElem];intro i j hi hj hij;simp only[List.length_map,List.length_range]at hi hj;simpa using Zb e i j hij hj
structure Env(E:Nat->Addr)(w:World)(B P:Nat)(s:Al)(g ca q co:Nat)(lt:List Ac)(lo:List Ab)(t c C:Nat)(nb:Nat->Nat)(kv:Nat->Value)(K:Nat->List Int)(X:Ac):Prop where
 h:Gh w B P s g ca q co lt lo t (.map (some c))
 n:Dz w C c lo.length (fun i=>(Aa lo i).id) q 0 nb kv K
 e:Mp w E
 h14:14<=B
 hB:B<=w.heap.size
 ht:t<lt.length
 hX:X=lt[t]
 hs:∀W,Below B w W->s.at W
 so:s.ok=true
 ok:okL lt lo=true
 tab:TZ w
 kid:∀u,u<lo.length->K u=I6 (Aa lo) (Aa lo u).id lo.length
 ti:Jz lo
theorem QN{x:Int}(h:0<=x/\x<=1000000):(Lit.int .i64 x).wf=true:=by
 have e1:IntKind.i64.min= -9223372036854775808:=by decide
 have e2:IntKind.i64.max=9223372036854775807:=by decide
 simp only[Lit.wf,Bool.and_eq_true,decide_eq_true_eq,e1,e2];omega
theorem Gt{lo:List Ab}{u:Nat}(h:u<lo.length):Aa lo u∈lo:=by rw[AW h];exact List.getElem_mem h
section
variable {E:Nat->Addr}{w W:World}{B P:Nat}{s:Al}{g ca q co:Nat}{lt:List Ac}{lo:List Ab}{t c C:Nat}{nb:Nat->Nat}{kv:Nat->Value}{K:Nat->List Int}{X:Ac}
theorem TZ.low{w w':World}(h:TZ w)(hb:Below w w w'):TZ w':=h.below hb
theorem Env.below(v:Env E w B P s g ca q co lt lo t c C nb kv K X)(hb:Below w w W):Env E W B P s g ca q co lt lo t c C nb kv K X:=
 ⟨v.h.below hb,v.n.below hb,v.e.below v.h14 (hb.mono v.hB),v.h14,Nat.le_trans v.hB hb.size,v.ht,v.hX,fun W' hW=>v.hs W' ((hb.mono v.hB).trans hW),v.so,v.ok,v.tab.below hb,v.kid,v.ti⟩
theorem Env.thr(v:Env E w B P s g ca q co lt lo t c C nb kv K X):Nf X:=by rw[v.hX];exact Fg v.ok _ (List.getElem_mem v.ht)
theorem Env.xat(v:Env E w B P s g ca q co lt lo t c C nb kv K X):X.at w:=by rw[v.hX];exact(v.h.st.tn _ (List.getElem_mem v.ht)).at
theorem Env.oat(v:Env E w B P s g ca q co lt lo t c C nb kv K X){u:Nat}(hu:u<lo.length):(Aa lo u).at w:=by
 rw[AW hu];exact⟨(v.h.st.on _ (List.getElem_mem hu)).1.1,(v.h.st.on _ (List.getElem_mem hu)).2.1.1,(v.h.st.on _ (List.getElem_mem hu)).2.2.1.1,(v.h.st.on _ (List.getElem_mem hu)).2.2.2.1,CN v.ok _ (List.getElem_mem hu)⟩
theorem Env.obj(v:Env E w B P s g ca q co lt lo t c C nb kv K X){u:Nat}(hu:u<lo.length):LR (Aa lo u):=Ec v.ok _ (Gt hu)
theorem Env.changes(v:Env E w B P s g ca q co lt lo t c C nb kv K X)(p:Nat)(hp:p<lo.length)(W:World)(hb:Below w w W):
 Calls prog 112 #[.agg #[X.id,X.b1,.slice X.c1.a X.c1.n X.c1.k,X.b2,.slice X.c2.a X.c2.n X.c2.k,.slice X.own.a X.own.n X.own.k,X.made],.agg #[.int .i64 (Aa lo p).b1,.slice (Aa lo p).c1.a (Aa lo p).c1.n (Aa lo p).c1.k]] W fun e w'=>e= .returned (.bool (Ao X (Aa lo p).b1 (Aa lo p).c1))/\Below W W w':=
 Ve (v.xat.below hb) ((v.oat hp).1.below hb) v.thr (v.obj hp).l1
theorem Env.sees(v:Env E w B P s g ca q co lt lo t c C nb kv K X)(p:Nat)(hp:p<lo.length)(W:World)(hb:Below w w W):
 Calls prog 120 #[.agg #[X.id,X.b1,.slice X.c1.a X.c1.n X.c1.k,X.b2,.slice X.c2.a X.c2.n X.c2.k,.slice X.own.a X.own.n X.own.k,X.made],.agg #[.int .i64 (Aa lo p).b1,.slice (Aa lo p).c1.a (Aa lo p).c1.n (Aa lo p).c1.k]] W fun e w'=>e= .returned (.bool (Gl X (Aa lo p).b1 (Aa lo p).c1))/\Below W W w':=
 Zn (v.xat.below hb) ((v.oat hp).1.below hb) v.thr (v.obj hp).l1
theorem ay{s:Al}(so:s.ok=true):(Lit.int .i64 s.to).wf=true:=by
 refine QN ?_;unfold Al.ok GU Ei at so;simp only[Bool.and_eq_true]at so;obtain⟨⟨_,h⟩,_⟩:=so;unfold Kf at h;split at h
 ·simp only[Cl]at h;omega
 ·have:=beq_iff_eq.1 h;omega
theorem bg{s:Al}(sf:Ug s):(Lit.int .i64 s.id).wf=true:=by
 refine QN ?_;have h:=sf.id;unfold Kf at h;split at h
 ·simp only[Cl]at h;omega
 ·have:=beq_iff_eq.1 h;omega
end
def KP(w:World)(P:Nat):Prop:=∃(ga qa:Option Addr) (n m ca co:Nat),w.cell? ⟨P,10,none⟩=some (.slice ga n ca)/\w.cell? ⟨P,11,none⟩=some (.slice qa m co)
theorem KP.of{w:World}{P ty:Nat}{s:Al}{g nt ca q no co t:Nat}{m:Value}(h:Ah w P (.cells (LG s g nt ca q no co t m) ty)):KP w P:=⟨_,_,_,_,_,_,h.work.2.1,h.work.2.2.1⟩
def JE(E:Nat->Addr)(B P:Nat)(s:Al)(lt:List Ac)(lo:List Ab)(t:Nat)(X:Ac)(m:Value)(w w':World)(tx:ByteArray)(v:Value):Prop:=
 Below B w w'/\((KP w' P/\∃c,Told w' B E v c/\c≠0/\FZ X s lt lo t c ⟨#[]⟩ lt lo)∨(v= .nilIface/\∃(g ca q co:Nat) (lt':List Ac) (lo':List Ab),Qt w' B P s g ca q co lt' lo' t m/\FZ X s lt lo t 0 tx lt' lo'))
section
variable {E:Nat->Addr}{w W:World}{B P:Nat}{s:Al}{g ca q co:Nat}{lt:List Ac}{lo:List Ab}{t c C:Nat}{nb:Nat->Nat}{kv:Nat->Value}{K:Nat->List Int}{X:Ac}
theorem JE.from{m:Value}{w':World}{tx:ByteArray}{r:Value}(h:JE E B P s lt lo t X m W w' tx r)(hb:Below B w W):JE E B P s lt lo t X m w w' tx r:=⟨hb.trans h.1,h.2⟩
theorem JE.no{m:Value}{w':World}{tx:ByteArray}{r:Value}{c:Int}(kp:KP w' P)(hb:Below B w w')(ht:Told w' B E r c)(hc:c≠0)(ha:FZ X s lt lo t c ⟨#[]⟩ lt lo):JE E B P s lt lo t X m w w' tx r:=⟨hb,.inl ⟨kp,c,ht,hc,ha⟩⟩
theorem JE.yes{m:Value}{w':World}{tx:ByteArray}{lt':List Ac}{lo':List Ab}{g' ca' q' co':Nat}(hb:Below B w w')(hs:Qt w' B P s g' ca' q' co' lt' lo' t m)(ha:FZ X s lt lo t 0 tx lt' lo'):JE E B P s lt lo t X m w w' tx .nilIface:=⟨hb,.inr ⟨rfl,_,_,_,_,_,_,hs,ha⟩⟩
theorem ZY(v:Env E w B P s g ca q co lt lo t c C nb kv K X){u:Nat}(hu:Bf X lo s.id 1=some u)(hk:(s.kind=6/\Ao X (Aa lo u).b1 (Aa lo u).c1=true)∨s.kind=7∨s.kind=8):
 Calls prog 122 #[.pointer (some ⟨P,0,none⟩),.agg #[.pointer (some ⟨q,u*10,none⟩)]] w fun e w'=>∃tx r,e= .returned (.tuple #[.string tx,r])/\JE E B P s lt lo t X (.map (some c)) w w' tx r:=by
 obtain⟨_,ul,_⟩:=Df hu;have eo:=AW ul;have hd:=CN v.ok;rcases hk with⟨hk,hc⟩|hk|hk
 ·refine(Ka w B P s g ca q co lt lo t _ v.h v.hB u ul _ eo hd hk).mono ?_;rintro e w' ⟨rfl,h1,h2⟩;exact⟨_,_,rfl,.yes h2 h1.f (.k6 hk (.inr ⟨u,hu,.inr ⟨hc,rfl,rfl,rfl,rfl⟩⟩))⟩
 ·refine(LJ w B P s g ca q co lt lo t _ v.h v.hB u ul _ eo hd hk).mono ?_;rintro e w' ⟨rfl,h1,h2⟩;exact⟨_,_,rfl,.yes h2 h1.f (.k7 hk (.inr ⟨u,hu,rfl,rfl,rfl,rfl⟩))⟩
 ·have b0:Below w w (w.alloc (.cells #[.pointer (some ⟨q,u*10,none⟩)] 177)):=(Below.refl _ w).alloc (Nat.le_refl _) _;have V:=v.below b0;have CT:=Ty E _ B P s g ca q co lt lo t c C nb kv K V.h V.n V.e V.h14 V.hB V.ht X V.hX u ul _ eo hd (ay v.so) (fun p hp W hW=>V.changes p hp W hW);refine(Ly w B P s g ca q co lt lo t _ v.h u ul _ eo hd hk _ CT).mono ?_;rintro e w' ⟨r,rfl,c',lo',h1,h2,h3,h4⟩;refine⟨_,r,rfl,?_⟩;have h2':=(b0.mono v.hB).trans h2;rcases h4 with⟨a1,rfl,rfl⟩|⟨p,a1,⟨a2,rfl,rfl⟩|⟨a2,a3,rfl,rfl⟩⟩
  ·exact .no (.of h1.wk) h2' h3 (by decide) (.k8 hk (.inr ⟨u,hu,.inl ⟨a1,rfl,rfl,rfl,rfl⟩⟩))
  ·exact .no (.of h1.wk) h2' h3 (by decide) (.k8 hk (.inr ⟨u,hu,.inr ⟨p,a1,.inl ⟨a2,rfl,rfl,rfl,rfl⟩⟩⟩))
  ·rcases h3 with⟨_,rfl⟩|⟨h,_⟩
   ·exact .yes h2' h1.f (.k8 hk (.inr ⟨u,hu,.inr ⟨p,a1,.inr ⟨a2,a3,rfl,rfl,rfl,rfl⟩⟩⟩))
   ·exact absurd rfl h
theorem aM(v:Env E w B P s g ca q co lt lo t c C nb kv K X){u:Nat}(hu:Bf X lo s.id 2=some u)(hc:Ao X (Aa lo u).b1 (Aa lo u).c1=true)(hk:s.kind=9∨s.kind=10):
 Calls prog 123 #[.pointer (some ⟨P,0,none⟩),.agg #[.pointer (some ⟨q,u*10,none⟩)]] w fun e w'=>∃tx r,e= .returned (.tuple #[.string tx,r])/\JE E B P s lt lo t X (.map (some c)) w w' tx r:=by
 obtain⟨_,ul,_⟩:=Df hu;have eo:=AW ul;have hd:=CN v.ok;have hi:=(Km v.ok _ (Gt ul)).1;rcases hk with hk|hk
 ·by_cases hf:(Aa lo u).items.n=8
  ·refine(Ny E w B P s g ca q co lt lo t _ v.h v.e v.h14 v.hB u ul _ eo hd hk hf).mono ?_;rintro e w' ⟨r,rfl,h1,h2,h3⟩;exact⟨_,r,rfl,.no (.of h3.wk) h1 h2 (by decide) (.k9 hk (.inr ⟨u,hu,.inr (.inl ⟨hc,hf,rfl,rfl,rfl,rfl⟩)⟩))⟩
  ·refine(PE w B P s g ca q co lt lo t _ v.h v.hB u ul _ eo hd hk hf (by omega) (v.ti _ (Gt ul)) (by have:=FC (Nl v.so).data;unfold maxLen;omega)).mono ?_;rintro e w' ⟨a,cc,rfl,h1,h2⟩;exact⟨_,_,rfl,.yes h2 h1.f (.k9 hk (.inr ⟨u,hu,.inr (.inr ⟨hc,hf,rfl,rfl,rfl,a,cc,rfl⟩)⟩))⟩
 ·by_cases hf:(Aa lo u).items.n=0
  ·refine(Og E w B P s g ca q co lt lo t _ v.h v.e v.h14 v.hB u ul _ eo hd hk hf).mono ?_;rintro e w' ⟨r,rfl,h1,h2,h3⟩;exact⟨_,r,rfl,.no (.of h3.wk) h1 h2 (by decide) (.k10 hk (.inr ⟨u,hu,.inr (.inl ⟨hc,hf,rfl,rfl,rfl,rfl⟩)⟩))⟩
  ·refine(Oj w B P s g ca q co lt lo t _ v.h v.hB u ul _ eo hd hk hf (by omega)).mono ?_;rintro e w' ⟨rfl,⟨a,kk,h1⟩,h2⟩;exact⟨_,_,rfl,.yes h2 h1 (.k10 hk (.inr ⟨u,hu,.inr (.inr ⟨hc,hf,rfl,rfl,rfl,a,kk,rfl⟩)⟩))⟩
theorem aN(v:Env E w B P s g ca q co lt lo t c C nb kv K X){u:Nat}(hu:Bf X lo s.id 3=some u)(hk:s.kind=15):
 Calls prog 124 #[.pointer (some ⟨P,0,none⟩),.agg #[.pointer (some ⟨q,u*10,none⟩)]] w fun e w'=>∃tx,e= .returned (.string tx)/\JE E B P s lt lo t X (.map (some c)) w w' tx .nilIface:=by
 obtain⟨ha,ul,hid_,_⟩:=Df hu;have eo:=AW ul;rw[<-eo]at hid_;have on:=El v.ok;have hl:(I6 (Aa lo) (Aa lo u).id lo.length).length<=lo.length:=by
  unfold I6;rw[List.length_map];exact Nat.le_trans (List.length_filter_le _ _) (by simp)
 refine(WU w B P s g ca q co lt lo t c C nb kv K v.h v.n v.hB u ul _ eo (CN v.ok) (by rw[hid_];exact ha) (QN (Ip v.ok _ (Gt ul))) _ (v.kid u ul) (by omega) (fun x hx=>?_) v.tab).mono ?_
 ·unfold I6 at hx;obtain⟨i,hi,rfl⟩:=List.mem_map.1 hx;exact Ip v.ok _ (Gt (List.mem_range.1 (List.mem_filter.1 hi).1))
 ·rintro e w' ⟨rfl,h1,h2⟩;refine⟨_,rfl,.yes h2 h1.f (.k15 hk (.inr ⟨u,hu,rfl,?_,rfl,rfl⟩))⟩;rw[hid_]
theorem aP(v:Env E w B P s g ca q co lt lo t c C nb kv K X){u:Nat}(hu:Bf X lo s.id 4=some u)(hk:s.kind=13):
 Calls prog 125 #[.pointer (some ⟨P,0,none⟩),.agg #[.pointer (some ⟨q,u*10,none⟩)]] w fun e w'=>∃r,e= .returned r/\JE E B P s lt lo t X (.map (some c)) w w' ⟨#[]⟩ r:=by
 obtain⟨ha,ul,_⟩:=Df hu;have eo:=AW ul;have o1:=Ja v.thr.own;have o2:=Ja (v.obj ul).own;have PT:Lib.compact (Ct ((List.range X.own.n).map X.own.h++(List.range (Aa lo u).own.n).map (Aa lo u).own.h))=DG ((List.range X.own.n).map X.own.h) (Aa lo u).own.h (Aa lo u).own.n:=Sj (WO v.thr.own) _ _;refine(UT E w B P s g ca q co lt lo t _ v.h v.e v.h14 v.hB v.ht X v.hX u ul _ eo (CN v.ok) (Fc X.b1 X.c1 X.own (Aa lo u).b2 (Aa lo u).c2) (fun W hW=>X5 (v.xat.below hW).1 (v.xat.below hW).2.2 ((v.oat ul).2.2.2.1.below hW) v.thr.l1 v.thr.own (v.obj ul).l2) (by omega) (by omega) _ PT.symm).mono ?_;rintro e w' ⟨r,x,c',rfl,h1,h2,h3,h4⟩;refine⟨r,rfl,?_⟩;rcases h4 with⟨rfl,a1,rfl⟩|⟨rfl,a1,a2,rfl⟩|⟨rfl,a1,a2,a,cc,rfl⟩
 ·exact .no (.of h1.wk) h2 h3 (by decide) (.k13 hk (.inr ⟨u,hu,.inl ⟨a1,rfl,rfl,rfl,rfl⟩⟩))
 ·exact .no (.of h1.wk) h2 h3 (by decide) (.k13 hk (.inr ⟨u,hu,.inr (.inl ⟨a1,a2,rfl,rfl,rfl,rfl⟩)⟩))
 ·rcases h3 with⟨_,rfl⟩|⟨h,_⟩
  ·exact .yes h2 h1.f (.k13 hk (.inr ⟨u,hu,.inr (.inr ⟨a1,a2,rfl,rfl,a,cc,rfl,rfl⟩)⟩))
  ·exact absurd rfl h
end
def Jb(l l2:List Ab):Prop:=l2.length=l.length/\∀j,j<l.length->(Aa l j).same (Aa l2 j)
theorem Jb.refl(l:List Ab):Jb l l:=⟨rfl,fun _ _=>Ab.same.refl _⟩
def an(E:Nat->Addr)(B P:Nat)(s:Al)(lt:List Ac)(lo:List Ab)(t:Nat)(X:Ac)(m:Value)(w w':World)(tx:ByteArray)(v:Value):Prop:=
 Below B w w'/\((KP w' P/\∃c,Told w' B E v c/\c≠0/\FZ X s lt lo t c ⟨#[]⟩ lt lo)∨(v= .nilIface/\∃(g ca q co:Nat) (lt':List Ac) (lo' lo2:List Ab),Qt w' B P s g ca q co lt' lo' t m/\Jb lo' lo2/\FZ X s lt lo t 0 tx lt' lo2))
theorem JE.q{E:Nat->Addr}{B P:Nat}{s:Al}{lt:List Ac}{lo:List Ab}{t:Nat}{X:Ac}{m:Value}{w w':World}{tx:ByteArray}{v:Value}(h:JE E B P s lt lo t X m w w' tx v):an E B P s lt lo t X m w w' tx v:=by
 refine⟨h.1,?_⟩;rcases h.2 with h|⟨h1,g,ca,q,co,lt',lo',h2,h3⟩
 ·exact .inl h
 ·exact .inr ⟨h1,g,ca,q,co,lt',lo',lo',h2,Jb.refl _,h3⟩
def WC(E:Nat->Addr)(s:Al):Prop:=∀{w:World}{B P g ca q co:Nat}{lt:List Ac}{lo:List Ab}{t c C:Nat}{nb:Nat->Nat}{kv:Nat->Value}{K:Nat->List Int}{X:Ac},Env E w B P s g ca q co lt lo t c C nb kv K X->18<=B->
 Calls prog 37 #[.pointer (some ⟨P,0,none⟩)] w fun e w'=>∃tx r,e= .returned (.tuple #[.string tx,r])/\an E B P s lt lo t X (.map (some c)) w w' tx r

end Go.Proofs.YtphddbnadcjhgaaGreatDoor
