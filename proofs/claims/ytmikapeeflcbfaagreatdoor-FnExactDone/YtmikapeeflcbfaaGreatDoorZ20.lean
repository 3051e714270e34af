import Derived.Test.YtmikapeeflcbfaaGreatDoorProg
import Derived.Shelf.Strings.OnBuilder
import Derived.Shelf.Strings.Builder1
import Derived.Shelf.Strings.BuilderF
import Derived.Shelf.Strconv.Itoa4
import Derived.Shelf.Strconv.Clone
import Derived.Shelf.LaysM
import Derived.Shelf.Lays
import Derived.Ground.NamesProg
import Derived.Test.YtmikapeeflcbfaaGreatDoorZ11
import Derived.Test.YtmikapeeflcbfaaGreatDoorZ0
import Derived.Lib.AppendIntMem
import Derived.Test.YtmikapeeflcbfaaGreatDoorZ13
set_option maxRecDepth 100000
set_option maxHeartbeats 8000000
namespace Go.Proofs.YtmikapeeflcbfaaGreatDoor
open Go.Shelf Go.Proofs.Tryz
def Tryz.joinA_ren:Go.Shelf.Ren:=⟨fun|156=>168|165=>185|166=>186|169=>187|240=>210|241=>211|276=>223|277=>224|n=>n,fun|31=>80|9=>9|3=>3|4=>4|0=>0|20=>20|72=>246|76=>248|70=>244|37=>182|75=>59|127=>272|164=>111|5=>5|80=>250|n=>n,fun|n=>n⟩
theorem Tryz.joinA:Go.Proofs.Lays.n156 prog Tryz.joinA_ren:={
 mixed:=by kernel_rfl
 f156:=func168.trans (congrArg some (by kernel_rfl))
 f165:=func185.trans (congrArg some (by kernel_rfl))
 f166:=func186.trans (congrArg some (by kernel_rfl))
 f169:=func187.trans (congrArg some (by kernel_rfl))
 f240:=func210.trans (congrArg some (by kernel_rfl))
 f241:=func211.trans (congrArg some (by kernel_rfl))
 f276:=func223.trans (congrArg some (by kernel_rfl))
 f277:=func224.trans (congrArg some (by kernel_rfl))
 t0:=underlying0
 a0:=isAgg0
 z0:=sizeOf0
 v0:=zeroValue0
 t3:=underlying3
 a3:=isAgg3
 z3:=sizeOf3
 v3:=zeroValue3
 t4:=underlying4
 a4:=isAgg4
 z4:=sizeOf4
 v4:=zeroValue4
 t9:=underlying9
 a9:=isAgg9
 z9:=sizeOf9
 v9:=zeroValue9
 t20:=underlying20
 a20:=isAgg20
 z20:=sizeOf20
 v20:=zeroValue20
 t31:=underlying80
 a31:=isAgg80
 z31:=sizeOf80
 v31:=zeroValue80
 t37:=underlying182
 a37:=isAgg182
 z37:=sizeOf182
 v37:=zeroValue182
 t70:=underlying244
 a70:=isAgg244
 z70:=sizeOf244
 v70:=zeroValue244
 t72:=underlying246
 a72:=isAgg246
 z72:=sizeOf246
 v72:=zeroValue246
 t75:=underlying59
 a75:=isAgg59
 z75:=sizeOf59
 v75:=zeroValue59
 t76:=underlying248
 a76:=isAgg248
 z76:=sizeOf248
 v76:=zeroValue248
 t127:=underlying272
 a127:=isAgg272
 z127:=sizeOf272
 v127:=zeroValue272
 t164:=underlying111
 a164:=isAgg111
 z164:=sizeOf111
 v164:=zeroValue111}
def Tryz.fmtA_ren:Go.Shelf.Ren:=⟨fun|173=>159|246=>170|283=>197|284=>198|285=>199|286=>200|129=>180|317=>215|318=>216|319=>217|320=>218|337=>226|338=>227|n=>n,fun|2=>2|3=>3|9=>9|4=>4|171=>257|0=>0|53=>238|37=>182|5=>5|173=>259|212=>277|51=>236|20=>20|213=>278|46=>219|232=>288|233=>289|n=>n,fun|17=>14|18=>16|19=>17|n=>n⟩
theorem Tryz.fmtA:Go.Proofs.LaysM.n173 prog Tryz.fmtA_ren:={
 mixed:=by kernel_rfl
 f129:=func180.trans (congrArg some (by kernel_rfl))
 f173:=func159.trans (congrArg some (by kernel_rfl))
 f246:=func170.trans (congrArg some (by kernel_rfl))
 f283:=func197.trans (congrArg some (by kernel_rfl))
 f284:=func198.trans (congrArg some (by kernel_rfl))
 f285:=func199.trans (congrArg some (by kernel_rfl))
 f286:=func200.trans (congrArg some (by kernel_rfl))
 f317:=func215.trans (congrArg some (by kernel_rfl))
 f318:=func216.trans (congrArg some (by kernel_rfl))
 f319:=func217.trans (congrArg some (by kernel_rfl))
 f320:=func218.trans (congrArg some (by kernel_rfl))
 f337:=func226.trans (congrArg some (by kernel_rfl))
 f338:=func227.trans (congrArg some (by kernel_rfl))
 t0:=underlying0
 a0:=isAgg0
 z0:=sizeOf0
 v0:=zeroValue0
 t2:=underlying2
 a2:=isAgg2
 z2:=sizeOf2
 v2:=zeroValue2
 t3:=underlying3
 a3:=isAgg3
 z3:=sizeOf3
 v3:=zeroValue3
 t4:=underlying4
 a4:=isAgg4
 z4:=sizeOf4
 v4:=zeroValue4
 t5:=underlying5
 a5:=isAgg5
 z5:=sizeOf5
 v5:=zeroValue5
 t9:=underlying9
 a9:=isAgg9
 z9:=sizeOf9
 v9:=zeroValue9
 t20:=underlying20
 a20:=isAgg20
 z20:=sizeOf20
 v20:=zeroValue20
 t37:=underlying182
 a37:=isAgg182
 z37:=sizeOf182
 v37:=zeroValue182
 t46:=underlying219
 a46:=isAgg219
 z46:=sizeOf219
 v46:=zeroValue219
 t51:=underlying236
 a51:=isAgg236
 z51:=sizeOf236
 v51:=zeroValue236
 t53:=underlying238
 a53:=isAgg238
 z53:=sizeOf238
 v53:=zeroValue238
 t171:=underlying257
 a171:=isAgg257
 z171:=sizeOf257
 v171:=zeroValue257
 t173:=underlying259
 a173:=isAgg259
 z173:=sizeOf259
 v173:=zeroValue259
 t212:=underlying277
 a212:=isAgg277
 z212:=sizeOf277
 v212:=zeroValue277
 t213:=underlying278
 a213:=isAgg278
 z213:=sizeOf278
 t232:=underlying288
 a232:=isAgg288
 z232:=sizeOf288
 v232:=zeroValue288
 t233:=underlying289
 a233:=isAgg289
 z233:=sizeOf289
 v233:=zeroValue289
 g17:=by kernel_rfl
 g18:=by kernel_rfl
 g19:=by kernel_rfl
 i0:=by kernel_rfl
 i2:=by kernel_rfl
 i3:=by kernel_rfl
 i4:=by kernel_rfl
 i5:=by kernel_rfl
 i9:=by kernel_rfl
 i20:=by kernel_rfl
 i37:=by kernel_rfl
 i46:=by kernel_rfl
 i51:=by kernel_rfl
 i53:=by kernel_rfl
 i171:=by kernel_rfl
 i173:=by kernel_rfl
 i212:=by kernel_rfl
 i232:=by kernel_rfl
 i233:=by kernel_rfl
 m17:=by kernel_rfl
 m18:=by kernel_rfl
 m19:=by kernel_rfl}
theorem Tryz.Builder_Extra_156:Builder.Extra prog Tryz.joinA_ren:={
 sizeBuilder:=by kernel_rfl
 liesBuilder:=by kernel_rfl
 t5:=underlying5
 a5:=isAgg5
 z5:=sizeOf5
 v5:=zeroValue5
 infoByte:=by kernel_rfl
 cellsByte:=by kernel_rfl
 sizeByte:=by kernel_rfl
 neB5:=by decide}
open Go.RowKit Go.Sort Go.Lib in
theorem Tryz.strconv_FormatInt_10(n:Int)(h0: -9223372036854775808<=n)(h1:n<=9223372036854775807)(w:World)(htab:Lib.TabIs prog w "internal/strconv.uint64pow10" .u64 Lib.pow10Tab):
 Calls prog 159 #[.int .i64 n,.int .i64 10] w fun e w'=>e= .returned (.string ⟨(Lib.itoa n).toArray⟩)/\∃k os,w'=grow (w.drewN k) os:=Any.strconv_FormatInt_10 Tryz.fmtA n h0 h1 w htab
open Go.RowKit in
theorem Tryz.strings_Join(bk o c:Nat)(xs:List ByteArray)(sep:ByteArray)(w:World)
 (hcells:∀(j:Nat) x,xs[j]? =some x->w.cell? ⟨bk,o+j,none⟩=some (.string x))
 (hbk:bk<w.heap.size)(hN:xs.length<=140737488355328)(hcap:xs.length<=c)
 (hlen:(Lib.join (xs.map (·.data.toList)) sep.data.toList).length<=140737488355328):
 Calls prog 168 #[.slice (some ⟨bk,o,none⟩) xs.length c,.string sep] w fun e w'=>e= .returned (.string ⟨(Lib.join (xs.map (·.data.toList)) sep.data.toList).toArray⟩)/\Below w.heap.size w w':=Any.strings_Join Tryz.joinA Tryz.Builder_Extra_156 bk o c xs sep w hcells hbk hN hcap hlen
open Go.RowKit Go.Deep Go.Maps
theorem WP(n:Nat):Lib.decDigits n=CY n:=by
 induction n using Nat.strongRecOn with
 |_ n ih=>
  by_cases h:n<10
  ·rw[Je h,Lib.decDigits,dif_pos h]
  ·rw[MU h,Lib.decDigits,dif_neg h,ih (n/10) (by omega)]
def P8(w:World):Prop:=Lib.TabIs prog w "internal/strconv.uint64pow10" .u64 Lib.pow10Tab
theorem Tryz.tabSome:(prog.globalNamed "internal/strconv.uint64pow10").isSome=true:=by kernel_rfl
theorem Tryz.tabNamed:∃g,prog.globalNamed "internal/strconv.uint64pow10" =some g:=Option.isSome_iff_exists.1 Tryz.tabSome
theorem P8.below{w w':World}(h:P8 w)(hb:Below w w w'):P8 w':=by
 obtain⟨g,hg⟩:=Tryz.tabNamed;unfold P8 Lib.TabIs at *;refine var?_below hb hg ?_ h;rcases Nat.lt_or_ge g w with h'|h'
 ·exact h'
 ·exfalso;simp[World.var?,hg,Array.getElem?_eq_none h']at h
theorem If(x:Int)(w:World)(h0:0<=x)(h1:x<=10000000000)(ht:P8 w):
 Calls prog 132 #[.int .i64 x] w fun e w'=>e= .returned (.string ⟨(CY x.toNat).toArray⟩)/\Below w w w':=by
 go_enter func132,ntmps132
 go_wp2_with fail
 refine(Tryz.strconv_FormatInt_10 x (by omega) (by omega) w ht).mono ?_;rintro e w' ⟨rfl,k,os,rfl⟩;have e1:Lib.itoa x=CY x.toNat:=by
  unfold Lib.itoa;rw[if_neg (by omega),WP]
 have hb:Below w w (Sort.grow (w.drewN k) os):=Lib.below_grow _ w (Nat.le_refl _) k os;rw[e1];generalize Sort.grow (w.drewN k) os=W at *;go_wp2;go_ret;exact⟨rfl,hb⟩
open Go
theorem Ax.one(w:World)(B:Nat)(hb:B<=w.heap.size)(x:Int):Ax (w.alloc (.cells #[.int .i64 x] 2)) B (.slice (some ⟨w,0,none⟩) 1 1) [x]:=
 ⟨rfl,.inr ⟨w,1,#[.int .i64 x],rfl,hb,blk_alloc_new _ _,Nat.le_refl _,by unfold maxLen;omega,rfl,rfl⟩⟩
theorem Ax.some_{w:World}{B n c:Nat}{a:Option Addr}{l:List Int}(h:Ax w B (.slice a n c) l)(hl:0<l.length):∃g,a=some ⟨g,0,none⟩/\l.length<=c/\c<=maxLen:=by
 rcases h.2 with⟨hv,hn⟩|⟨g,cap,cur,hv,_,_,h1,h2,_⟩
 ·omega
 ·simp only[Value.slice.injEq]at hv;obtain⟨rfl,_,rfl⟩:=hv;exact⟨g,rfl,h1,h2⟩
theorem Su(k:Ar)(u:Nat)(w:World)(hk:k.at w)(ho:BQ k.on k.O=true)(hu:u<k.on)(hc:Gx (fun i=>(k.O i).id) (fun i=>(k.O i).up) k.on u):
 Calls prog 91 #[k.val,.int .i64 (k.O u).id] w fun e w'=>∃v,e= .returned v/\Ax w' w v (Ce ((EJ (fun i=>(k.O i).id) (fun i=>(k.O i).up) k.on k.on u).map (fun i=>(k.O i).id)))/\Below w w w':=by
 obtain⟨on1,on2,_,_⟩:=Cc ho;have hr:=Bt ho;have h0:∀j,j<k.on->(fun i=>(k.O i).id) j≠(fun i=>(k.O i).up) 0:=fun j hj=>by have:=Ea ho j hj;have:=(Cm ho).2.2;dsimp only;omega
 have n1:No (.cells #[.slice k.ta k.tn k.tk,.slice k.oa k.on k.ok] 36):=⟨⟩;have hb0:Below w w (w.alloc n1):=(Below.refl _ w).alloc (Nat.le_refl _) _;have A0:=Ah.new w n1;have n3:No (.cells #[.int .i64 (k.O u).id] 2):=⟨⟩;have bm:=hb0.alloc hb0.size n3;have A1:=A0.alloc n3;have O1:=Ax.one (w.alloc n1) (w.heap.size+1) (by simp) (k.O u).id;have HT:=hid hk;have HR:=hid hr;have H0:=hid h0;have HC:=hid hc;have BS:Hid (Uz (fun i=>(k.O i).id) (fun i=>(k.O i).up) k.on u 0 [u]):=hid (Uz.start hu);unfold Ar.val;clear hk ho hr h0 hc;go_enter func91,ntmps91
 go_wp2;generalize hW:((w.alloc n1).alloc n3)=W at *;have O2:Ax W (w.heap.size+1) (.slice (some ⟨w.heap.size+1,0,none⟩) 1 1) ([u].map (fun i=>(k.O i).id)):=by simpa using O1
 clear hW hb0 A0 O1;go_loopw [5,6] (fun v i wr=>∃(t:Nat) (Q:List Nat),t<=Q.length/\Q.length<=271/\i= .int .i64 t/\Hid (Uz (fun i=>(k.O i).id) (fun i=>(k.O i).up) k.on u t Q)/\Hid (Ax wr (w.heap.size+1) v (Q.map (fun i=>(k.O i).id)))/\Ah wr w n1/\Below w w wr) (fun _ i _=>271-(intOf i).toNat)
 case atStart=>exact⟨0,[u],Nat.zero_le _,by simp,rfl,BS,hid O2,A1,bm⟩
 case round=>
  clear O2 A1 bm BS;obtain⟨t,Q,ht,hq,rfl,HB,HO,A,hB⟩:=hrel;obtain⟨sa,sc,es⟩:=Cw HO.out;subst es;have ql:(Q.map (fun i=>(k.O i).id)).length=Q.length:=by simp
  have QL:=hid ql;rw[ql]at HO;rw[ql];clear ql;by_cases hlt:t<Q.length
  ·obtain⟨a,ea⟩:∃a,Q[t]? =some a:=⟨Q[t],by simp[hlt]⟩;have HA:=hid ea;have hl0:0<(Q.map (fun i=>(k.O i).id)).length:=(by rw[QL.out];omega);have lies:=Ax.lies (a:=sa) (c:=sc) (l:=Q.map (fun i=>(k.O i).id)) (by rw[QL.out];exact HO.out);obtain⟨sb,so,rfl,slt,scc⟩:=lies hl0;have g1:wr.cell? ⟨sb,so+t,none⟩=some (.int .i64 (k.O a).id):=scc t _ (by simp[ea]);have i0:(0:Int)<=(t:Int):=(by omega);have i1:(t:Int)<(Q.length:Int):=(by omega);obtain⟨x0,x1⟩:=A.two;have CK:=hid (Nn k (k.O a).id wr.drew (HT.out.below hB.drew) on2);rw[XH,Hv]at CK;unfold Ar.val at CK;have n4:No (.cells #[.slice k.ta k.tn k.tk,.slice k.oa k.on k.ok] 36):=⟨⟩;have Ad:Ah wr.drew w n4:=A;have kl:(CX (fun i=>(k.O i).id) (fun i=>(k.O i).up) k.on a).length<=271:=by
    have:=Jb (fun i=>(k.O i).id) (fun i=>(k.O i).up) k.on a;rw[Hv,List.length_map]at this;omega
   clear ea lies scc hl0;go_wp2_with fail
   go_region_held3(fun w'=>w'.cell? ⟨w,0,none⟩=some (.slice k.ta k.tn k.tk)/\w'.cell? ⟨w,1,none⟩=some (.slice k.oa k.on k.ok)/\w'.cell? ⟨sb,so+t,none⟩=some (.int .i64 (k.O a).id)) (first|go_keep|(simp only[*,and_self]))
    (first
      |(go_at_call 94;refine CK.out.mono ?_;rintro e w2 ⟨kv,rfl,o2,hb2⟩;have K2:=hid o2;clear o2;obtain⟨p0,p1⟩:=(Ad.below hb2).two;have p2:=(hb2.cell (p:=⟨sb,so+t,none⟩) slt).trans g1))
   have B2:Below w w w2:=Ae hB.drew hb2;have hs1:w.heap.size+1<=wr.drew.heap.size:=A.lt;have A2:=Ad.below hb2;have S2:=hid (Ax.below (w:=wr.drew) HO.out hb2);have KA:Hid (∀g,kv.ownBlock=some g->some g≠some sb):=hid (fun g hg e=>by
    have h1:=(World.ownsRow.lt K2.out g hg).1;have h2:wr.drew.heap.size=wr.heap.size:=rfl;have h3:=Option.some.inj e;omega)
   obtain⟨ka,kc,ek⟩:=Cw K2.out;subst ek;have NX:Hid (Uz (fun i=>(k.O i).id) (fun i=>(k.O i).up) k.on u (t+1) (Q++CX (fun i=>(k.O i).id) (fun i=>(k.O i).up) k.on a)):=hid (HB.out.step HR.out H0.out HC.out HA.out);have ml:((CX (fun i=>(k.O i).id) (fun i=>(k.O i).up) k.on a).map (fun i=>(k.O i).id)).length<=271:=(by rw[List.length_map];exact kl);have EQ:Hid ((Q.map (fun i=>(k.O i).id))++((CX (fun i=>(k.O i).id) (fun i=>(k.O i).up) k.on a).map (fun i=>(k.O i).id))=(Q++CX (fun i=>(k.O i).id) (fun i=>(k.O i).up) k.on a).map (fun i=>(k.O i).id)):=hid (by rw[List.map_append]);have LQ:Hid ((Q++CX (fun i=>(k.O i).id) (fun i=>(k.O i).up) k.on a).length<=271):=hid (Nat.le_trans NX.out.len on2);generalize hKd:(CX (fun i=>(k.O i).id) (fun i=>(k.O i).up) k.on a).map (fun i=>(k.O i).id)=Kd at *;clear hKd kl;have QL2:Hid ((Q.map (fun i=>(k.O i).id)).length=Q.length):=QL;have V0:Hid (Ax w2 (w.heap.size+1) (.slice (some ⟨sb,so,none⟩) Q.length sc) (Q.map (fun i=>(k.O i).id))):=S2;generalize hSd:Q.map (fun i=>(k.O i).id)=Sd at *;have SL:Sd.length<=271:=(by rw[QL2.out];exact hq);clear hSd p0 p1 p2 g1 x0 x1 CK Ad A hB HO hb2 S2 HB;go_wp2;go_loopw [5,8] (fun v i wr=>∃j:Nat,j<=Kd.length/\i= .int .i64 j/\Hid (Ax wr (w.heap.size+1) v (Sd++Kd.take j))/\Hid (Ax wr (w.heap.size+1) (.slice ka Kd.length kc) Kd)/\Hid (∀g,(Value.slice ka Kd.length kc).ownBlock=some g->some g≠v.ownBlock)/\Ah wr w n4/\Below w w wr) (fun _ i _=>Kd.length-(intOf i).toNat)
   case atStart=>exact⟨0,Nat.zero_le _,rfl,hid (by rw[List.take_zero,List.append_nil];exact V0.out),hid (K2.out.low hs1),KA,A2,B2⟩
   case round=>
    clear K2 KA A2 B2 V0;obtain⟨j,hj,rfl,HS,HKd,HAP,A,hB⟩:=hrel;by_cases hlt2:j<Kd.length
    ·obtain⟨y,ey⟩:∃y,Kd[j]? =some y:=⟨Kd[j],by simp[hlt2]⟩;obtain⟨kb,ko,rfl,_,kcc⟩:=Ax.lies HKd.out (by omega);have g1:wr.cell? ⟨kb,ko+j,none⟩=some (.int .i64 y):=kcc j _ (by simp[ey]);have i2:(j:Int)<(Kd.length:Int):=(by omega);have L1:=hid (Dd.one (w:=wr) y);have n2:No (.cells #[.int .i64 y] 2):=⟨⟩;have OA:=hid (Ax.alloc HS.out n2);have KA2:=hid (Ax.alloc HKd.out n2);have AA:=A.alloc n2;have B1:Below w w (wr.alloc n2):=hB.alloc hB.size _;have s1:w.heap.size+1<=(wr.alloc n2).heap.size:=(by have:=A.lt;simp;omega);have lm:(Sd++Kd.take j).length+1<=4194304:=(by rw[List.length_append,List.length_take];omega);have ET:Hid (Sd++Kd.take j++[y]=Sd++Kd.take (j+1)):=hid (by rw[List.take_add_one,ey,List.append_assoc];rfl);have LE:Hid ((Sd++Kd.take (j+1)).length=Sd.length+(j+1)):=hid (by rw[List.length_append,List.length_take];omega);have FIN:Hid (∀(w3:World) (v3:Value),(wr.alloc n2).grownBy w3 u5.ownBlock->(v3.ownBlock=u5.ownBlock∨v3.ownBlock=some (wr.alloc n2).heap.size)->Ah w3 w (.cells #[.slice k.ta k.tn k.tk,.slice k.oa k.on k.ok] 36)/\Below w w w3/\Ax w3 (w.heap.size+1) (.slice (some ⟨kb,ko,none⟩) Kd.length kc) Kd/\∀g,(Value.slice (some ⟨kb,ko,none⟩) Kd.length kc).ownBlock=some g->some g≠v3.ownBlock):=hid (fun w3 v3 g3 h3=>by
      refine⟨AA.grown g3 (fun e=>by have:=(World.ownsRow.lt OA.out _ e.symm).1;omega),B1.trans (below_grown g3 B1.size (fun j hj=>by have:=(World.ownsRow.lt OA.out j hj).1;omega)),KA2.out.of_block (fun g hg=>g3.block g (World.ownsRow.lt KA2.out g hg).2 (HAP.out g hg)),fun g hg=>?_⟩;rcases h3 with h3|h3
      ·rw[h3];exact HAP.out g hg
      ·rw[h3];have:=(World.ownsRow.lt KA2.out g hg).2;simp only[ne_eq,Option.some.injEq];omega)
     clear kcc ey HS HKd;go_wp2_with(refine Do _ rfl _ _ rfl (w.heap.size+1) u5 (Sd++Kd.take j) rfl OA.out _ 1 1 [y] rfl rfl L1.out lm s1 ?_;intro a3 c3 w3 o3 g3 v3)
     rw[ET.out,LE.out]at o3 v3;obtain⟨f1,f2,f3,f4⟩:=FIN.out w3 _ g3 v3;exact⟨⟨j+1,by omega,by go_num,hid o3,hid f3,hid f4,f1,f2⟩,by simp[intOf];omega⟩
    ·have i2:¬(j:Int)<(Kd.length:Int):=(by omega);have e:j=Kd.length:=(by omega);have HS2:Hid (Ax wr (w.heap.size+1) u5 ((Q++CX (fun i=>(k.O i).id) (fun i=>(k.O i).up) k.on a).map (fun i=>(k.O i).id))):=hid (by
      have:=HS.out;rw[e,List.take_length,EQ.out]at this;exact this)
     clear HS e HKd HAP;go_wp2;exact⟨⟨t+1,_,by rw[List.length_append];omega,LQ.out,by go_num,NX,HS2,A,hB⟩,by simp[intOf];omega⟩
  ·have e:t=Q.length:=(by omega);have i1:¬(t:Int)<(Q.length:Int):=(by omega);have PUT:Hid (Dq (Q.map (fun i=>(k.O i).id))=Ce ((EJ (fun i=>(k.O i).id) (fun i=>(k.O i).up) k.on k.on u).map (fun i=>(k.O i).id))):=hid (YM HR.out H0.out hu HC.out (by rw[<-e];exact HB.out));clear HB e;have ZL:Hid ((Q.map (fun i=>(k.O i).id)).length<=271):=hid (by rw[QL.out];exact hq);have OS:Hid (Ax wr (w.heap.size+1) (.slice sa (Q.map (fun i=>(k.O i).id)).length sc) (Q.map (fun i=>(k.O i).id))):=hid (by rw[QL.out];exact HO.out);have QL2:Hid ((Q.map (fun i=>(k.O i).id)).length=Q.length):=QL;clear HO QL;generalize hSd:Q.map (fun i=>(k.O i).id)=Sd at *;clear hSd;rw[<-QL2.out]at i1;rw[<-QL2.out];have tl:Sd.length<=271:=ZL.out;have OM:=hid (Ax.made wr (w.heap.size+1) (by have:=A.lt;omega));have B1:Below w w (wr.alloc (.cells #[] 2)):=hB.alloc hB.size _;have OS1:=hid (Ax.alloc OS.out (.cells #[] 2));go_wp2;generalize hWx:wr.alloc (.cells #[] 2)=Wx at *;go_loopw [9,10] (fun v i wr'=>∃(q:Nat) (A':Addr) (c':Nat),q<=Sd.length/\i= .int .i64 q/\v= .slice (some A') (Dq (Sd.take q)).length c'/\(Dq (Sd.take q)).length<=c'/\c'<=maxLen/\Hid (Ax wr' (w.heap.size+1) (.slice (some A') (Dq (Sd.take q)).length c') (Dq (Sd.take q)))/\Hid (Ax wr' (w.heap.size+1) (.slice sa Sd.length sc) Sd)/\Below w w wr') (fun _ i _=>Sd.length-(intOf i).toNat)
   case atStart=>exact⟨0,_,0,Nat.zero_le _,rfl,rfl,Nat.le_refl _,by unfold maxLen;omega,OM,OS1,B1⟩
   case round=>
    obtain⟨q,A',c',hqs,rfl,rfl,hc1,hc2,HP,HQ,hB'⟩:=hrel;clear OM OS1 B1;by_cases hlt2:q<Sd.length
    ·obtain⟨y,ey⟩:∃y,Sd[q]? =some y:=⟨Sd[q],by simp[hlt2]⟩;obtain⟨kb,ko,rfl,_,kcc⟩:=Ax.lies HQ.out (by omega);have g1:wr.cell? ⟨kb,ko+q,none⟩=some (.int .i64 y):=kcc q _ (by simp[ey]);have i2:(q:Int)<(Sd.length:Int):=(by omega);have hln:(Dq (Sd.take q)).length<=1048576:=(by have:=Uj (Sd.take q);rw[List.length_take]at this;omega);have ET:Hid (Dh (Dq (Sd.take q)) y=Dq (Sd.take (q+1))):=hid (by
      rw[List.take_add_one,ey];unfold Dq;rw[List.foldl_append];rfl)
     have C1:=hid (Py A' c' (Dq (Sd.take q)) y wr hln hc1 hc2 (Ax.lies HP.out));rw[ET.out]at C1;have PP:Hid (0<(Dq (Sd.take (q+1))).length):=hid (by rw[<-ET.out];exact Xz _ _);clear kcc ey ET;go_wp2_with fail
     refine C1.out.mono ?_;rintro e w3 ⟨va,vc,rfl,o3,hb3⟩;obtain⟨g,rfl,z1,z2⟩:=o3.some_ PP.out;have HQ3:=hid (HQ.out.below hb3);have B3:=Ae hB' hb3;have O3:=hid (o3.low (B':=w.heap.size+1) (by have:=World.ownsRow.lt HP.out A'.block rfl;omega));clear o3 hb3 g1 C1 HP HQ hc1 hc2;go_wp2;exact⟨⟨q+1,_,vc,by omega,by go_num,rfl,z1,z2,O3,HQ3,B3⟩,by simp[intOf];omega⟩
    ·have i2:¬(q:Int)<(Sd.length:Int):=(by omega);have e:q=Sd.length:=(by omega);have HP2:Hid (Ax wr w (.slice (some A') (Dq (Sd.take q)).length c') (Ce ((EJ (fun i=>(k.O i).id) (fun i=>(k.O i).up) k.on k.on u).map (fun i=>(k.O i).id)))):=hid (by
      rw[<-PUT.out];have h:=HP.out.low (B':=w.heap.size) (by omega);have e2:Sd.take q=Sd:=(by rw[e,List.take_length]);rw[e2]at h ⊢;exact h)
     clear HP e PUT;go_wp2;go_ret;exact⟨_,rfl,HP2.out,hB'⟩
def Te(k:Ar)(x:Int):List Int:=if BI k=true then(match Bd (fun i=>(k.O i).id) k.on x with
 |some u=>Ce ((EJ (fun i=>(k.O i).id) (fun i=>(k.O i).up) k.on k.on u).map (fun i=>(k.O i).id))
 |none=>[])else[]
theorem Xx{k:Ar}(h:BI k=true):∀j,j<k.on->(fun i=>(k.O i).id) j≠(fun i=>(k.O i).up) 0:=fun j hj=>by
 have ho:=(Bl h).2.1;have:=Ea ho j hj;have:=(Cm ho).2.2;dsimp only;omega
theorem IB{k:Ar}(h:BI k=true){u:Nat}(hu:u<k.on):Gx (fun i=>(k.O i).id) (fun i=>(k.O i).up) k.on u:=by
 obtain⟨m,_,e⟩:=Fo.1 (Bl h).2.2.2.2 u hu;exact MK e
theorem Ul(k:Ar)(x:Int):(Te k x).length<=271:=by
 unfold Te;split
 ·rename_i h;obtain⟨_,h2,_⟩:=Cc (Bl h).2.1;split
  ·rename_i u hu;obtain⟨hu,_⟩:=AE hu;rw[FY,List.length_map];have:=Ga (G6 (Bt (Bl h).2.1) (Xx h) (f:=k.on) hu (IB h hu)) (fun x hx=>((DT (Bt (Bl h).2.1) (Xx h) hu).1 hx).1);omega
  ·simp
 ·simp
inductive UH(n:Nat) (O:Nat->Ab):Int->Prop
 |root:UH n O (O 0).id
 |up {i:Nat} (h0:0<i) (hi:i<n) (h:UH n O (O i).up):UH n O (O i).id
structure Tp(k:Ar):Prop where
 thr:Bq k.tn k.T=true
 lo:1<=k.on
 root:E7 (k.O 0)=true
 obj:∀i,i<k.on->Cn (k.O i)=true
 rise:CM (fun i=>(k.O i).id) k.on
 num:∀i,0<i->i<k.on->Ex k.tn k.T (k.O i).id=true
 box:∀i,0<i->i<k.on->∃p,p<k.on/\(k.O p).id=(k.O i).up/\(k.O p).kind=3
 reach:∀i,i<k.on->UH k.on k.O (k.O i).id
theorem Ka{ids:Nat->Int}{n:Nat}(h:∀i,0<i->i<n->ids (i-1)<ids i):CM ids n:=by
 intro i j hij hj;induction j with
 |zero=>omega
 |succ j ih=>
  have h1:=h (j+1) (by omega) hj;have e:j+1-1=j:=by omega
  rw[e]at h1;by_cases e1:i=j
  ·subst e1;exact h1
  ·have:=ih (by omega) (by omega);omega
theorem OV{n:Nat}{O:Nat->Ab}(h:CM (fun i=>(O i).id) n){x:Int}:Fg n O x=true↔∃p,p<n/\(O p).id=x/\(O p).kind=3:=by
 unfold Fg;constructor
 ·intro hh;cases e:Bd (fun i=>(O i).id) n x with
  |none=>rw[e]at hh;cases hh
  |some u=>
   rw[e]at hh;obtain⟨h1,h2⟩:=AE e;exact⟨u,h1,h2,by simpa using hh⟩
 ·rintro⟨p,h1,h2,h3⟩;have e:=De h h1;rw[h2]at e;rw[e];simpa using h3
theorem XK{n:Nat}{O:Nat->Ab}:∀{m i:Nat},i<n->Bg (fun i=>(O i).id) (fun i=>(O i).up) n m i=some 0->UH n O (O i).id
 |0,i,_,h=>by
  simp only[Bg,Option.some.injEq]at h;subst h;exact .root
 |m+1,i,hi,h=>by
  simp only[Bg]at h;cases e:IM (fun i=>(O i).id) (fun i=>(O i).up) n i with
  |none=>rw[e]at h;cases h
  |some j=>
   rw[e]at h;have hj:=MZ e;have r:=XK hj h;unfold IM at e;split at e
   ·cases e
   ·rename_i h0;have:=(AE e).2;simp only at this;rw[this]at r;exact .up (by omega) hi r
theorem YT{n:Nat}{O:Nat->Ab}(h0:0<n){x:Int}(hx:UH n O x):∃p,p<n/\(O p).id=x:=by
 induction hx with
 |root=>exact⟨0,h0,rfl⟩
 |@up q _ hq _ _=>exact⟨q,hq,rfl⟩
theorem YN{n:Nat}{O:Nat->Ab}(h:CM (fun i=>(O i).id) n)(h0:0<n){x:Int}(hx:UH n O x):∀i,i<n->(O i).id=x->∃m,Bg (fun i=>(O i).id) (fun i=>(O i).up) n m i=some 0:=by
 induction hx with
 |root=>
  intro i hi e;have:i=0:=h.inj hi h0 e;subst this;exact⟨0,rfl⟩
 |@up j hj0 hj hu ih=>
  intro i hi e;have:i=j:=h.inj hi hj e;subst this;have hp:∃p,p<n/\(O p).id=(O i).up:=YT h0 hu;obtain⟨p,hp1,hp2⟩:=hp;obtain⟨m,hm⟩:=ih p hp1 hp2;refine⟨m+1,?_⟩;have e1:IM (fun i=>(O i).id) (fun i=>(O i).up) n i=some p:=by
   unfold IM;rw[if_neg (by omega)];have:=De h hp1;rw[hp2]at this;exact this
  simp only[Bg,e1,Option.bind_some];exact hm
theorem Ew{n:Nat}{T:Nat->Ac}(h:Bq n T=true){id:Int}(hn:Ex n T id=true):∃t,t<n/\(T t).id=id/1000/\1<=id%1000/\id%1000<=(T t).made:=by
 cases e:Bd (fun i=>(T i).id) n (id/1000)with
 |none=>rw[MO h e]at hn;cases hn
 |some t=>
  obtain⟨h1,h2⟩:=AE e;rw[Jo h e]at hn;have:=DL.1 hn;exact⟨t,h1,h2,this.1,this.2⟩
theorem Sw{n:Nat}{T:Nat->Ac}(h:Bq n T=true){id:Int}{t:Nat}(h1:t<n)(h2:(T t).id=id/1000)(h3:1<=id%1000)(h4:id%1000<=(T t).made):Ex n T id=true:=by
 have e:=De (II h) h1;rw[h2]at e;rw[Jo h e];exact DL.2 ⟨h3,h4⟩
theorem Tp.few{k:Ar}(h:Tp k):k.on<=271:=by
 have lo:=h.lo;let g:Nat->Nat:=fun i=>(((k.O (i+1)).id/1000-1)*30+((k.O (i+1)).id%1000-1)).toNat;have hg:∀i,i<k.on-1->1<=(k.O (i+1)).id/1000/\(k.O (i+1)).id/1000<=9/\1<=(k.O (i+1)).id%1000/\(k.O (i+1)).id%1000<=30:=fun i hi=>by
  obtain⟨t,t1,t2,t3,t4⟩:=Ew h.thr (h.num (i+1) (by omega) (by omega));obtain⟨_,_,hT⟩:=CF h.thr;have hk:=Mt (hT t t1);have h1:=J6 hk;have h2:=Jn hk;omega
 have hl:((List.range (k.on-1)).map g).Nodup:=by
  rw[List.Nodup,List.pairwise_map];refine List.Pairwise.imp_of_mem ?_ (List.pairwise_lt_range (n:=k.on-1));intro a b ha hb hab e;have ha':=List.mem_range.1 ha;have hb':=List.mem_range.1 hb;have ga:=hg a ha';have gb:=hg b hb';have hr:=h.rise (a+1) (b+1) (by omega) (by omega);simp only at hr;have e':g a=g b:=e;simp only[g]at e';omega
 have:=Ga (n:=270) hl (fun x hx=>by
  obtain⟨i,hi,rfl⟩:=List.mem_map.1 hx;have gi:=hg i (List.mem_range.1 hi);show g i<270;simp only[g];omega)
 simp at this;omega
theorem BF{k:Ar}:BI k=true↔Tp k:=by
 constructor
 ·intro h;have h1:Bq k.tn k.T=true:=by
   cases e:Bq k.tn k.T with
   |true=>rfl
   |false=>rw[FZ e]at h;cases h
  have h2:1<=k.on/\k.on<=271:=by
   by_cases e:1<=k.on/\k.on<=271
   ·exact e
   ·rw[Hd e]at h;cases h
  rw[Iq h1 h2.1 h2.2,Bool.and_eq_true]at h;have hs:=Fx h.1;have hat:∀i,i<k.on->Cn (k.O i)=true/\(if i=0 then E7 (k.O 0)else decide ((k.O (i-1)).id<(k.O i).id)&&Ex k.tn k.T (k.O i).id&&Fg k.on k.O (k.O i).up)=true:=fun i hi=>by
   have:=hs i hi;unfold Gn at this;exact Bool.and_eq_true_iff.1 this
  have hrest:∀i,0<i->i<k.on->(k.O (i-1)).id<(k.O i).id/\Ex k.tn k.T (k.O i).id=true/\Fg k.on k.O (k.O i).up=true:=fun i h0 hi=>by
   have:=(hat i hi).2;rw[if_neg (by omega)]at this;simp only[Bool.and_eq_true,decide_eq_true_eq]at this;exact⟨this.1.1,this.1.2,this.2⟩
  have hr:CM (fun i=>(k.O i).id) k.on:=Ka fun i h0 hi=>(hrest i h0 hi).1;refine⟨h1,h2.1,?_,fun i hi=>(hat i hi).1,hr,fun i h0 hi=>(hrest i h0 hi).2.1,fun i h0 hi=>(OV hr).1 (hrest i h0 hi).2.2,fun i hi=>?_⟩
  ·have:=(hat 0 (by omega)).2;rw[if_pos rfl]at this;exact this
  ·obtain⟨m,_,hm⟩:=Fo.1 h.2 i hi;exact XK hi hm
 ·intro h;have h2:=h.few;rw[Iq h.thr h.lo h2,Bool.and_eq_true];refine⟨DV fun i hi=>?_,Fo.2 fun i hi=>?_⟩
  ·unfold Gn;rw[h.obj i hi,Bool.true_and];by_cases e:i=0
   ·rw[if_pos e];exact h.root
   ·rw[if_neg e];have hr:=h.rise (i-1) i (by omega) hi;simp only at hr;rw[h.num i (by omega) hi,(OV h.rise).2 (h.box i (by omega) hi),decide_eq_true hr];rfl
  ·obtain⟨m,hm⟩:=YN h.rise (by have:=h.lo;omega) (h.reach i hi) i hi rfl;exact⟨m,Nk Fs hi hm,hm⟩
def Ar.setT(k:Ar)(t:Nat)(x:Ac):Ar:={k with T:=fun j=>if j=t then x else k.T j}
def Ar.setO(k:Ar)(i:Nat)(x:Ab):Ar:={k with O:=fun j=>if j=i then x else k.O j}
theorem Vv{n:Nat}{T:Nat->Ac}(h1:1<=n)(h2:n<=9)(h:∀i,i<n->CS (T i)=true)(hr:CM (fun i=>(T i).id) n):Bq n T=true:=by
 unfold Bq;simp only[Bool.and_eq_true,decide_eq_true_eq];refine⟨⟨h1,h2⟩,DV fun i hi=>?_⟩;unfold DK;rw[h i hi,Bool.true_and];by_cases e:i=0
 ·subst e;rfl
 ·have:=hr (i-1) i (by omega) hi;simp only at this;simp[this]
theorem Tp.setT{k:Ar}(h:Tp k){t:Nat}{x:Ac}(hx:CS x=true)(hid:x.id=(k.T t).id)(hm:(k.T t).made<=x.made):Tp (k.setT t x):=by
 obtain⟨n1,n9,hT⟩:=CF h.thr;have ids:∀j,((k.setT t x).T j).id=(k.T j).id:=fun j=>by
  show(if j=t then x else k.T j).id=_;split
  ·rename_i e;rw[e,hid]
  ·rfl
 have mades:∀j,(k.T j).made<=((k.setT t x).T j).made:=fun j=>by
  show _<=(if j=t then x else k.T j).made;split
  ·rename_i e;rw[e];exact hm
  ·exact Int.le_refl _
 have hthr:Bq (k.setT t x).tn (k.setT t x).T=true:=by
  refine Vv n1 n9 (fun i hi=>?_) (fun i j hij hj=>?_)
  ·show CS (if i=t then x else k.T i)=true;split
   ·exact hx
   ·exact Mt (hT i hi)
  ·simp only;rw[ids,ids];exact II h.thr i j hij hj
 refine⟨hthr,h.lo,h.root,h.obj,h.rise,fun i h0 hi=>?_,h.box,h.reach⟩;obtain⟨u,u1,u2,u3,u4⟩:=Ew h.thr (h.num i h0 hi);exact Sw hthr (t:=u) u1 ((ids u).trans u2) u3 (Int.le_trans u4 (mades u))
theorem Wu{n:Nat}{O P:Nat->Ab}(h0:(P 0).id=(O 0).id)(h1:∀i,i<n->(P i).id=(O i).id/\(P i).up=(O i).up){x:Int}(hx:UH n O x):UH n P x:=by
 induction hx with
 |root=>rw[<-h0];exact .root
 |@up i i0 hi _ ih=>
  rw[<-(h1 i hi).1];refine .up i0 hi ?_;rw[(h1 i hi).2];exact ih
theorem Tp.setO{k:Ar}(h:Tp k){i:Nat}{x:Ab}(hx:Cn x=true)(h1:x.id=(k.O i).id)(h2:x.kind=(k.O i).kind)(h3:x.up=(k.O i).up):Tp (k.setO i x):=by
 have same:∀j,((k.setO i x).O j).id=(k.O j).id/\((k.setO i x).O j).kind=(k.O j).kind/\((k.setO i x).O j).up=(k.O j).up:=fun j=>by
  show(if j=i then x else k.O j).id=_/\(if j=i then x else k.O j).kind=_/\(if j=i then x else k.O j).up=_;split
  ·rename_i e;rw[e];exact⟨h1,h2,h3⟩
  ·exact⟨rfl,rfl,rfl⟩
 refine⟨h.thr,h.lo,?_,fun j hj=>?_,fun a b hab hb=>?_,fun j j0 hj=>?_,fun j j0 hj=>?_,fun j hj=>?_⟩
 ·have:=h.root;unfold E7 at this ⊢;rw[(same 0).1,(same 0).2.1,(same 0).2.2];exact this
 ·show Cn (if j=i then x else k.O j)=true;split
  ·exact hx
  ·exact h.obj j hj
 ·simp only;rw[(same a).1,(same b).1];exact h.rise a b hab hb
 ·rw[(same j).1];exact h.num j j0 hj
 ·obtain⟨p,p1,p2,p3⟩:=h.box j j0 hj;exact⟨p,p1,by rw[(same p).1,(same j).2.2];exact p2,by rw[(same p).2.1];exact p3⟩
 ·rw[(same j).1];exact Wu (same 0).1 (fun i _=>⟨(same i).1,(same i).2.2⟩) (h.reach j hj)
def Fh(O:Nat->Ab)(p:Nat)(x:Ab)(j:Nat):Ab:=if j<p then O j else if j=p then x else O (j-1)
def Ar.ins(k:Ar)(p:Nat)(x:Ab):Ar:={k with on:=k.on+1,O:=Fh k.O p x}
theorem JD{O:Nat->Ab}{p j:Nat}{x:Ab}(h:j<p):Fh O p x j=O j:=by unfold Fh;rw[if_pos h]
theorem Uu{O:Nat->Ab}{p:Nat}{x:Ab}:Fh O p x p=x:=by unfold Fh;rw[if_neg (Nat.lt_irrefl _),if_pos rfl]
theorem Qn{O:Nat->Ab}{p j:Nat}{x:Ab}(h:p<j):Fh O p x j=O (j-1):=by unfold Fh;rw[if_neg (by omega),if_neg (by omega)]
theorem SJ{O:Nat->Ab}{p:Nat}{x:Ab}(j:Nat):∃i,i<=j+1/\j<=i/\Fh O p x i=O j/\(0<j->0<i):=by
 by_cases e:j<p
 ·exact⟨j,by omega,by omega,JD e,fun h=>h⟩
 ·refine⟨j+1,by omega,by omega,?_,fun _=>by omega⟩;rw[Qn (by omega)];rfl
theorem Tp.ins{k:Ar}(h:Tp k){p:Nat}{x:Ab}(p0:0<p)(hp:p<=k.on)(hlo:∀j,j<p->(k.O j).id<x.id)(hhi:∀j,p<=j->j<k.on->x.id<(k.O j).id)(hx:Cn x=true)(hn:Ex k.tn k.T x.id=true)(hb:∃q,q<k.on/\(k.O q).id=x.up/\(k.O q).kind=3):Tp (k.ins p x):=by
 have e0:Fh k.O p x 0=k.O 0:=JD p0;have cases3:∀j,j<k.on+1->(j<p/\Fh k.O p x j=k.O j)∨(j=p/\Fh k.O p x j=x)∨(p<j/\j-1<k.on/\Fh k.O p x j=k.O (j-1)):=fun j hj=>by
  by_cases e1:j<p
  ·exact .inl ⟨e1,JD e1⟩
  ·by_cases e2:j=p
   ·exact .inr (.inl ⟨e2,by rw[e2];exact Uu⟩)
   ·exact .inr (.inr ⟨by omega,by omega,Qn (by omega)⟩)
 have mono:∀{y:Int},UH k.on k.O y->UH (k.on+1) (Fh k.O p x) y:=fun{y} hy=>by
  induction hy with
  |root=>rw[<-e0];exact .root
  |@up i i0 hi _ ih=>
   obtain⟨j,j1,_,j2,j3⟩:=SJ (O:=k.O) (p:=p) (x:=x) i;rw[<-j2];refine .up (j3 i0) (by omega) ?_;rw[j2];exact ih
 obtain⟨q,q1,q2,q3⟩:=hb;refine⟨h.thr,by show 1<=k.on+1;omega,?_,fun j hj=>?_,Ka fun j j0 hj=>?_,fun j j0 hj=>?_,fun j j0 hj=>?_,fun j hj=>?_⟩
 ·show E7 (Fh k.O p x 0)=true;rw[e0];exact h.root
 ·show Cn (Fh k.O p x j)=true;rcases cases3 j hj with⟨c,e⟩|⟨_,e⟩|⟨_,c,e⟩<;>rw[e]
  ·exact h.obj j (by omega)
  ·exact hx
  ·exact h.obj _ c
 ·show(Fh k.O p x (j-1)).id<(Fh k.O p x j).id;rcases cases3 j hj with⟨c,e⟩|⟨c,e⟩|⟨c,c2,e⟩
  ·rw[e,JD (by omega)];exact h.rise (j-1) j (by omega) (by omega)
  ·rw[e,JD (by omega)];exact hlo _ (by omega)
  ·rw[e];by_cases e3:j-1=p
   ·rw[e3,Uu];exact hhi p (Nat.le_refl _) (by omega)
   ·rw[Qn (by omega)];exact h.rise (j-1-1) (j-1) (by omega) (by omega)
 ·show Ex k.tn k.T (Fh k.O p x j).id=true;rcases cases3 j hj with⟨c,e⟩|⟨_,e⟩|⟨c,c2,e⟩<;>rw[e]
  ·exact h.num j j0 (by omega)
  ·exact hn
  ·exact h.num (j-1) (by omega) c2
 ·have IM:∀{y:Int},(∃q,q<k.on/\(k.O q).id=y/\(k.O q).kind=3)->∃r,r<k.on+1/\(Fh k.O p x r).id=y/\(Fh k.O p x r).kind=3:=fun⟨q,q1,q2,q3⟩=>by
   obtain⟨r,r1,_,r2,_⟩:=SJ (O:=k.O) (p:=p) (x:=x) q;exact⟨r,by omega,by rw[r2];exact q2,by rw[r2];exact q3⟩
  show ∃r,r<k.on+1/\(Fh k.O p x r).id=(Fh k.O p x j).up/\(Fh k.O p x r).kind=3;rcases cases3 j hj with⟨c,e⟩|⟨_,e⟩|⟨c,c2,e⟩<;>rw[e]
  ·exact IM (h.box j j0 (by omega))
  ·exact IM ⟨q,q1,q2,q3⟩
  ·exact IM (h.box (j-1) (by omega) c2)
 ·show UH (k.on+1) (Fh k.O p x) (Fh k.O p x j).id;rcases cases3 j hj with⟨c,e⟩|⟨c,e⟩|⟨c,c2,e⟩
  ·rw[e];exact mono (h.reach j (by omega))
  ·refine .up (by omega) hj ?_;rw[e,<-q2];exact mono (h.reach q q1)
  ·rw[e];exact mono (h.reach _ c2)
def D5(n:Nat)(keep:Nat->Bool):List Nat:=(List.range n).filter keep
def Ar.cut(k:Ar)(keep:Nat->Bool):Ar:={k with on:=(D5 k.on keep).length,O:=fun j=>k.O ((D5 k.on keep).getD j 0)}
theorem Fa{n:Nat}{keep:Nat->Bool}{j:Nat}(hj:j<(D5 n keep).length):(D5 n keep).getD j 0<n/\keep ((D5 n keep).getD j 0)=true:=by
 have e:(D5 n keep).getD j 0=(D5 n keep)[j]:=by simp[List.getD,hj]
 have hm:=List.getElem_mem hj;rw[e];obtain⟨h1,h2⟩:=List.mem_filter.1 hm;exact⟨List.mem_range.1 h1,h2⟩
theorem Ji{n:Nat}{keep:Nat->Bool}{i:Nat}(hi:i<n)(hk:keep i=true):∃j,j<(D5 n keep).length/\(D5 n keep).getD j 0=i:=by
 have hm:i∈D5 n keep:=List.mem_filter.2 ⟨List.mem_range.2 hi,hk⟩;obtain⟨j,hj,e⟩:=List.getElem_of_mem hm;exact⟨j,hj,by simp[List.getD,hj,e]⟩
theorem Jl{n:Nat}{keep:Nat->Bool}{a b:Nat}(hab:a<b)(hb:b<(D5 n keep).length):(D5 n keep).getD a 0<(D5 n keep).getD b 0:=by
 have hp:(D5 n keep).Pairwise (· <·):=List.Pairwise.sublist List.filter_sublist (List.pairwise_lt_range (n:=n));have:=List.pairwise_iff_getElem.1 hp a b (by omega) hb hab;simpa[List.getD,hb,show a<(D5 n keep).length by omega]using this
theorem Tp.cut{k:Ar}(h:Tp k){keep:Nat->Bool}(k0:keep 0=true)(hup:∀i p,0<i->i<k.on->p<k.on->(k.O p).id=(k.O i).up->keep i=true->keep p=true):Tp (k.cut keep):=by
 have lo:=h.lo;obtain⟨z,z1,z2⟩:=Ji (keep:=keep) (show 0<k.on by omega) k0;have zz:z=0:=by
  by_cases e:z=0
  ·exact e
  ·have:=Jl (n:=k.on) (keep:=keep) (a:=0) (b:=z) (by omega) z1;omega
 rw[zz]at z1 z2;have eO:∀j,(k.cut keep).O j=k.O ((D5 k.on keep).getD j 0):=fun _=>rfl;have e0:(k.cut keep).O 0=k.O 0:=by rw[eO,z2]
 have pos:∀{j},0<j->j<(D5 k.on keep).length->0<(D5 k.on keep).getD j 0:=fun{j} j0 hj=>by
  have:=Jl (n:=k.on) (keep:=keep) (a:=0) (b:=j) j0 hj;omega
 have stay:∀{y:Int},UH k.on k.O y->∀i,i<k.on->(k.O i).id=y->keep i=true->UH (D5 k.on keep).length (k.cut keep).O y:=fun{y} hy=>by
  induction hy with
  |root=>intro i _ _ _;rw[<-e0];exact .root
  |@up j j0 hj hu ih=>
   intro i hi e hk;have:i=j:=h.rise.inj hi hj e;subst this;obtain⟨m,m1,m2⟩:=Ji (keep:=keep) hi hk;have em:(k.cut keep).O m=k.O i:=(by rw[eO,m2]);rw[<-em];have m0:0<m:=by
    by_cases e:m=0
    ·rw[e,z2]at m2;omega
    ·omega
   refine .up m0 m1 ?_;rw[em];obtain⟨p,p1,p2,_⟩:=h.box i j0 hj;exact ih p p1 p2 (hup i p j0 hj p1 p2 hk)
 refine⟨h.thr,z1,?_,fun j hj=>?_,fun a b hab hb=>?_,fun j j0 hj=>?_,fun j j0 hj=>?_,fun j hj=>?_⟩
 ·rw[e0];exact h.root
 ·rw[eO];exact h.obj _ (Fa hj).1
 ·simp only;rw[eO,eO];exact h.rise _ _ (Jl hab hb) (Fa hb).1
 ·rw[eO];exact h.num _ (pos j0 hj) (Fa hj).1
 ·rw[eO];obtain⟨p,p1,p2,p3⟩:=h.box _ (pos j0 hj) (Fa hj).1;obtain⟨m,m1,m2⟩:=Ji (keep:=keep) p1 (hup _ p (pos j0 hj) (Fa hj).1 p1 p2 (Fa hj).2);exact⟨m,m1,by rw[eO,m2];exact p2,by rw[eO,m2];exact p3⟩
 ·rw[eO];exact stay (h.reach _ (Fa hj).1) _ (Fa hj).1 rfl (Fa hj).2
end Go.Proofs.YtmikapeeflcbfaaGreatDoor
