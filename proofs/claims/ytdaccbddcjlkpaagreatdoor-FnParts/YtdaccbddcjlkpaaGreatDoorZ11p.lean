import Derived.Shelf.Strings.OnBuilder
import Derived.Shelf.Strings.Builder1
import Derived.Shelf.Strings.BuilderF
import Derived.Shelf.Strconv.Itoa4
import Derived.Shelf.Strconv.Clone
import Derived.Shelf.LaysM
import Derived.Shelf.Lays
import Derived.Ground.NamesProg
import Derived.Lib.AppendIntMem
import Derived.Test.YtdaccbddcjlkpaaGreatDoorZ9p
set_option maxRecDepth 100000
set_option maxHeartbeats 16000000
namespace Go.Proofs.YtdaccbddcjlkpaaGreatDoor
open Go.Shelf Go.Proofs.Tryz
def Tryz.joinA_ren:Go.Shelf.Ren:=⟨fun|156=>203|165=>218|166=>219|169=>220|240=>232|241=>233|276=>242|277=>243|n=>n,fun|31=>57|9=>9|3=>3|4=>4|0=>0|20=>20|72=>288|76=>289|70=>286|37=>22|75=>137|127=>303|164=>117|5=>5|80=>107|n=>n,fun|n=>n⟩
theorem Tryz.joinA:Go.Proofs.Lays.n156 prog Tryz.joinA_ren:={
 mixed:=by kernel_rfl
 f156:=func203.trans (congrArg some (by kernel_rfl))
 f165:=func218.trans (congrArg some (by kernel_rfl))
 f166:=func219.trans (congrArg some (by kernel_rfl))
 f169:=func220.trans (congrArg some (by kernel_rfl))
 f240:=func232.trans (congrArg some (by kernel_rfl))
 f241:=func233.trans (congrArg some (by kernel_rfl))
 f276:=func242.trans (congrArg some (by kernel_rfl))
 f277:=func243.trans (congrArg some (by kernel_rfl))
 t0:=underlying0
 a0:=isAgg0
 z0:=sizeOf0
 v0:=zeroValue0
 t3:=underlying3
 a3:=isAgg3
 z3:=sizeOf3
 v3:=zeroValue3
 t4:=underlying4
 a4:=isAgg4
 z4:=sizeOf4
 v4:=zeroValue4
 t9:=underlying9
 a9:=isAgg9
 z9:=sizeOf9
 v9:=zeroValue9
 t20:=underlying20
 a20:=isAgg20
 z20:=sizeOf20
 v20:=zeroValue20
 t31:=underlying57
 a31:=isAgg57
 z31:=sizeOf57
 v31:=zeroValue57
 t37:=underlying22
 a37:=isAgg22
 z37:=sizeOf22
 v37:=zeroValue22
 t70:=underlying286
 a70:=isAgg286
 z70:=sizeOf286
 v70:=zeroValue286
 t72:=underlying288
 a72:=isAgg288
 z72:=sizeOf288
 v72:=zeroValue288
 t75:=underlying137
 a75:=isAgg137
 z75:=sizeOf137
 v75:=zeroValue137
 t76:=underlying289
 a76:=isAgg289
 z76:=sizeOf289
 v76:=zeroValue289
 t127:=underlying303
 a127:=isAgg303
 z127:=sizeOf303
 v127:=zeroValue303
 t164:=underlying117
 a164:=isAgg117
 z164:=sizeOf117
 v164:=zeroValue117}
def Tryz.fmtA_ren:Go.Shelf.Ren:=⟨fun|173=>197|246=>208|283=>225|284=>226|285=>227|286=>228|129=>161|317=>237|318=>238|319=>239|320=>240|337=>245|338=>246|n=>n,fun|2=>2|3=>3|9=>9|4=>4|171=>297|0=>0|53=>77|37=>22|5=>5|173=>299|212=>306|51=>80|20=>20|213=>307|46=>123|232=>312|233=>313|n=>n,fun|17=>14|18=>16|19=>17|n=>n⟩
theorem Tryz.fmtA:Go.Proofs.LaysM.n173 prog Tryz.fmtA_ren:={
 mixed:=by kernel_rfl
 f129:=func161.trans (congrArg some (by kernel_rfl))
 f173:=func197.trans (congrArg some (by kernel_rfl))
 f246:=func208.trans (congrArg some (by kernel_rfl))
 f283:=func225.trans (congrArg some (by kernel_rfl))
 f284:=func226.trans (congrArg some (by kernel_rfl))
 f285:=func227.trans (congrArg some (by kernel_rfl))
 f286:=func228.trans (congrArg some (by kernel_rfl))
 f317:=func237.trans (congrArg some (by kernel_rfl))
 f318:=func238.trans (congrArg some (by kernel_rfl))
 f319:=func239.trans (congrArg some (by kernel_rfl))
 f320:=func240.trans (congrArg some (by kernel_rfl))
 f337:=func245.trans (congrArg some (by kernel_rfl))
 f338:=func246.trans (congrArg some (by kernel_rfl))
 t0:=underlying0
 a0:=isAgg0
 z0:=sizeOf0
 v0:=zeroValue0
 t2:=underlying2
 a2:=isAgg2
 z2:=sizeOf2
 v2:=zeroValue2
 t3:=underlying3
 a3:=isAgg3
 z3:=sizeOf3
 v3:=zeroValue3
 t4:=underlying4
 a4:=isAgg4
 z4:=sizeOf4
 v4:=zeroValue4
 t5:=underlying5
 a5:=isAgg5
 z5:=sizeOf5
 v5:=zeroValue5
 t9:=underlying9
 a9:=isAgg9
 z9:=sizeOf9
 v9:=zeroValue9
 t20:=underlying20
 a20:=isAgg20
 z20:=sizeOf20
 v20:=zeroValue20
 t37:=underlying22
 a37:=isAgg22
 z37:=sizeOf22
 v37:=zeroValue22
 t46:=underlying123
 a46:=isAgg123
 z46:=sizeOf123
 v46:=zeroValue123
 t51:=underlying80
 a51:=isAgg80
 z51:=sizeOf80
 v51:=zeroValue80
 t53:=underlying77
 a53:=isAgg77
 z53:=sizeOf77
 v53:=zeroValue77
 t171:=underlying297
 a171:=isAgg297
 z171:=sizeOf297
 v171:=zeroValue297
 t173:=underlying299
 a173:=isAgg299
 z173:=sizeOf299
 v173:=zeroValue299
 t212:=underlying306
 a212:=isAgg306
 z212:=sizeOf306
 v212:=zeroValue306
 t213:=underlying307
 a213:=isAgg307
 z213:=sizeOf307
 t232:=underlying312
 a232:=isAgg312
 z232:=sizeOf312
 v232:=zeroValue312
 t233:=underlying313
 a233:=isAgg313
 z233:=sizeOf313
 v233:=zeroValue313
 g17:=by kernel_rfl
 g18:=by kernel_rfl
 g19:=by kernel_rfl
 i0:=by kernel_rfl
 i2:=by kernel_rfl
 i3:=by kernel_rfl
 i4:=by kernel_rfl
 i5:=by kernel_rfl
 i9:=by kernel_rfl
 i20:=by kernel_rfl
 i37:=by kernel_rfl
 i46:=by kernel_rfl
 i51:=by kernel_rfl
 i53:=by kernel_rfl
 i171:=by kernel_rfl
 i173:=by kernel_rfl
 i212:=by kernel_rfl
 i232:=by kernel_rfl
 i233:=by kernel_rfl
 m17:=by kernel_rfl
 m18:=by kernel_rfl
 m19:=by kernel_rfl}
theorem Tryz.Builder_Extra_156:Builder.Extra prog Tryz.joinA_ren:={
 sizeBuilder:=by kernel_rfl
 liesBuilder:=by kernel_rfl
 t5:=underlying5
 a5:=isAgg5
 z5:=sizeOf5
 v5:=zeroValue5
 infoByte:=by kernel_rfl
 cellsByte:=by kernel_rfl
 sizeByte:=by kernel_rfl
 neB5:=by decide}
open Go.RowKit Go.Sort Go.Lib in
theorem Tryz.strconv_FormatInt_10(n:Int)(h0: -9223372036854775808<=n)(h1:n<=9223372036854775807)(w:World)(htab:Lib.TabIs prog w "internal/strconv.uint64pow10" .u64 Lib.pow10Tab):
 Calls prog 197 #[.int .i64 n,.int .i64 10] w fun e w'=>e= .returned (.string ⟨(Lib.itoa n).toArray⟩)/\∃k os,w'=grow (w.drewN k) os:=Any.strconv_FormatInt_10 Tryz.fmtA n h0 h1 w htab
open Go.RowKit in
theorem Tryz.strings_Join(bk o c:Nat)(xs:List ByteArray)(sep:ByteArray)(w:World)
 (hcells:∀(j:Nat) x,xs[j]? =some x->w.cell? ⟨bk,o+j,none⟩=some (.string x))
 (hbk:bk<w.heap.size)(hN:xs.length<=140737488355328)(hcap:xs.length<=c)
 (hlen:(Lib.join (xs.map (·.data.toList)) sep.data.toList).length<=140737488355328):
 Calls prog 203 #[.slice (some ⟨bk,o,none⟩) xs.length c,.string sep] w fun e w'=>e= .returned (.string ⟨(Lib.join (xs.map (·.data.toList)) sep.data.toList).toArray⟩)/\Below w.heap.size w w':=Any.strings_Join Tryz.joinA Tryz.Builder_Extra_156 bk o c xs sep w hcells hbk hN hcap hlen
open Go.RowKit Go.Deep Go.Maps
theorem aC(n:Nat):Lib.decDigits n=Dd n:=by
 induction n using Nat.strongRecOn with
 |_ n ih=>
  by_cases h:n<10
  ·rw[Hy h,Lib.decDigits,dif_pos h]
  ·rw[Lx h,Lib.decDigits,dif_neg h,ih (n/10) qQ]
def Td(w:World):Prop:=Lib.TabIs prog w "internal/strconv.uint64pow10" .u64 Lib.pow10Tab
theorem Tryz.tabSome:(prog.globalNamed "internal/strconv.uint64pow10").isSome=true:=by kernel_rfl
theorem Tryz.tabNamed:∃g,prog.globalNamed "internal/strconv.uint64pow10" =some g:=Option.isSome_iff_exists.1 Tryz.tabSome
theorem Td.below{w w':World}(h:Td w)(hb:Below w w w'):Td w':=by
 obtain⟨g,hg⟩:=Tryz.tabNamed;unfold Td Lib.TabIs at *;refine var?_below hb hg ?_ h;rcases Nat.lt_or_ge g w with h'|h'
 ·exact h'
 ·exfalso;simp[World.var?,hg,Array.getElem?_eq_none h']at h
theorem J0(x:Int)(w:World)(h0:0<=x)(h1:x<=10000000000)(ht:Td w):
 Calls prog 168 #[.int .i64 x] w fun e w'=>e= .returned (.string ⟨(Dd x.toNat).toArray⟩)/\Below w w w':=by
 go_enter func168,ntmps168
 go_wp2_with fail
 refine(Tryz.strconv_FormatInt_10 x qQ qQ w ht).mono ?_;rintro e w' ⟨rfl,k,os,rfl⟩;have e1:Lib.itoa x=Dd x.toNat:=by
  unfold Lib.itoa;rw[if_neg qQ,aC]
 have hb:Below w w (Sort.grow (w.drewN k) os):=Lib.below_grow _ w nr k os;rw[e1];generalize Sort.grow (w.drewN k) os=W at *;go_wp2;go_ret;exact⟨rfl,hb⟩
open Go
open Go.Value renaming slice→qV
open Go.Obj renaming cells→qG
open Go.World renaming ownsRow→qq
open _root_.Nat renaming zero_le→qy,le_refl→jP
open _root_.List renaming length_append→jU,length_take→xx,length_map→kX,take_add_one→zM
open _root_.Option renaming some→jV
open Go.RowKit renaming Below→qN
theorem AI.one(w:World)(B:Nat)(hb:B<=w.heap.size)(x:Int):AI (w.alloc (qG #[.int .i64 x] 2)) B (qV (w) 1 1) [x]:=
 ⟨rfl,.inr ⟨w,1,#[.int .i64 x],rfl,hb,blk_alloc_new _ _,jP _,by unfold maxLen;omega,rfl,rfl⟩⟩
theorem AI.some_{w:World}{B n c:Nat}{a:Option Addr}{l:List Int}(h:AI w B (qV a n c) l)(hl:0<l.length):∃g,a=some ⟨g,0,none⟩/\l.length<=c/\c<=maxLen:=by
 rcases h.2 with⟨hv,hn⟩|⟨g,cap,cur,hv,_,_,h1,h2,_⟩
 ·omega
 ·simp only[Value.slice.injEq]at hv;obtain⟨rfl,_,rfl⟩:=hv;exact⟨g,rfl,h1,h2⟩
theorem Ub(k:Av)(u:Nat)(w:World)(hk:k.at w)(ho:Cr k.on k.O=true)(hu:u<k.on)(hc:Ii (fun i=>(k.O i).id) (fun i=>(k.O i).up) k.on u):
 Calls prog 97 #[k.val,.int .i64 (k.O u).id] w fun e w'=>∃v,e= .returned v/\AI w' w v (CM ((Gk (fun i=>(k.O i).id) (fun i=>(k.O i).up) k.on k.on u).map (fun i=>(k.O i).id)))/\qN w w w':=by
 obtain⟨on1,on2,_,_⟩:=Cv ho;have hr:=Ch ho;have h0:∀j,j<k.on->(fun i=>(k.O i).id) j≠(fun i=>(k.O i).up) 0:=fun j hj=>by have:=Et ho j hj;have:=(Cy ho).2.2;dsimp only;omega
 have n1:No (qG #[qV k.ta k.tn k.tk,qV k.oa k.on k.ok] 27):=⟨⟩;have hb0:qN w w (w.alloc n1):=Bg w _;have A0:=Ag.new w n1;have n3:No (qG #[.int .i64 (k.O u).id] 2):=⟨⟩;have bm:=hb0.alloc hb0.size n3;have A1:=A0.alloc n3;have O1:=AI.one (w.alloc n1) (w.heap.size+1) sI (k.O u).id;have HT:=qC hk;have HR:=qC hr;have H0:=qC h0;have HC:=qC hc;have BS:Hid (Xc (fun i=>(k.O i).id) (fun i=>(k.O i).up) k.on u 0 [u]):=qC (Xc.start hu);unfold Av.val;clear hk ho hr h0 hc;go_enter func97,ntmps97
 go_wp2;generalize hW:((w.alloc n1).alloc n3)=W at *;have O2:AI W (w.heap.size+1) (qV (some ⟨w.heap.size+1,0,none⟩) 1 1) ([u].map (fun i=>(k.O i).id)):=by simpa using O1
 clear hW hb0 A0 O1;go_loopw [5,6] (fun v i wr=>∃(t:Nat) (Q:List Nat),t<=Q.length/\Q.length<=271/\i= .int .i64 t/\Hid (Xc (fun i=>(k.O i).id) (fun i=>(k.O i).up) k.on u t Q)/\Hid (AI wr (w.heap.size+1) v (Q.map (fun i=>(k.O i).id)))/\Ag wr w n1/\qN w w wr) (fun _ i _=>271-(intOf i).toNat)
 case atStart=>exact⟨0,[u],qy _,by simp,rfl,BS,qC O2,A1,bm⟩
 case round=>
  clear O2 A1 bm BS;obtain⟨t,Q,ht,hq,rfl,HB,HO,A,hB⟩:=hrel;obtain⟨sa,sc,es⟩:=CG HO.out;subst es;have ql:(Q.map (fun i=>(k.O i).id)).length=Q.length:=by simp
  have QL:=qC ql;rw[ql]at HO;rw[ql];clear ql;by_cases hlt:t<Q.length
  ·obtain⟨a,ea⟩:∃a,Q[t]? =some a:=⟨Q[t],by simp[hlt]⟩;have HA:=qC ea;have hl0:0<(Q.map (fun i=>(k.O i).id)).length:=(by rw[QL.out];omega);have lies:=AI.lies (a:=sa) (c:=sc) (l:=Q.map (fun i=>(k.O i).id)) (by rw[QL.out];exact HO.out);obtain⟨sb,so,rfl,slt,scc⟩:=lies hl0;have g1:wr.cell? ⟨sb,so+t,none⟩=some (.int .i64 (k.O a).id):=scc t _ (by simp[ea]);have i0:(0:Int)<=(t:Int):=qQ;have i1:(t:Int)<(Q.length:Int):=qQ;obtain⟨x0,x1⟩:=A.two;have CK:=qC (Ox k (k.O a).id wr.drew (HT.out.below hB.drew) on2);rw[ah,IZ]at CK;unfold Av.val at CK;have n4:No (qG #[qV k.ta k.tn k.tk,qV k.oa k.on k.ok] 27):=⟨⟩;have Ad:Ag wr.drew w n4:=A;have kl:(DU (fun i=>(k.O i).id) (fun i=>(k.O i).up) k.on a).length<=271:=by
    have:=Li (fun i=>(k.O i).id) (fun i=>(k.O i).up) k.on a;rw[IZ,kX]at this;omega
   clear ea lies scc hl0;go_wp2_with fail
   go_region_held3(fun w'=>w'.cell? ⟨w,0,none⟩=some (qV k.ta k.tn k.tk)/\w'.cell? ⟨w,1,none⟩=some (qV k.oa k.on k.ok)/\w'.cell? ⟨sb,so+t,none⟩=some (.int .i64 (k.O a).id)) (first|go_keep|(simp only[*,and_self]))
    (first
      |(go_at_call 100;refine CK.out.mono ?_;rintro e w2 ⟨kv,rfl,o2,hb2⟩;have K2:=qC o2;clear o2;obtain⟨p0,p1⟩:=(Ad.below hb2).two;have p2:=(hb2.cell (p:=⟨sb,so+t,none⟩) slt).trans g1))
   have B2:qN w w w2:=Af hB.drew hb2;have hs1:w.heap.size+1<=wr.drew.heap.size:=A.lt;have A2:=Ad.below hb2;have S2:=qC (AI.below (w:=wr.drew) HO.out hb2);have KA:Hid (∀g,kv.ownBlock=some g->some g≠some sb):=qC (fun g hg e=>by
    have h1:=(qq.lt K2.out g hg).1;have h2:wr.drew.heap.size=wr.heap.size:=rfl;have h3:=jV.inj e;omega)
   obtain⟨ka,kc,ek⟩:=CG K2.out;subst ek;have NX:Hid (Xc (fun i=>(k.O i).id) (fun i=>(k.O i).up) k.on u (t+1) (Q++DU (fun i=>(k.O i).id) (fun i=>(k.O i).up) k.on a)):=qC (HB.out.step HR.out H0.out HC.out HA.out);have ml:((DU (fun i=>(k.O i).id) (fun i=>(k.O i).up) k.on a).map (fun i=>(k.O i).id)).length<=271:=(by rw[kX];exact kl);have EQ:Hid ((Q.map (fun i=>(k.O i).id))++((DU (fun i=>(k.O i).id) (fun i=>(k.O i).up) k.on a).map (fun i=>(k.O i).id))=(Q++DU (fun i=>(k.O i).id) (fun i=>(k.O i).up) k.on a).map (fun i=>(k.O i).id)):=qC (by rw[List.map_append]);have LQ:Hid ((Q++DU (fun i=>(k.O i).id) (fun i=>(k.O i).up) k.on a).length<=271):=qC (Nat.le_trans NX.out.len on2);generalize hKd:(DU (fun i=>(k.O i).id) (fun i=>(k.O i).up) k.on a).map (fun i=>(k.O i).id)=Kd at *;clear hKd kl;have QL2:Hid ((Q.map (fun i=>(k.O i).id)).length=Q.length):=QL;have V0:Hid (AI w2 (w.heap.size+1) (qV (some ⟨sb,so,none⟩) Q.length sc) (Q.map (fun i=>(k.O i).id))):=S2;generalize hSd:Q.map (fun i=>(k.O i).id)=Sd at *;have SL:Sd.length<=271:=(by rw[QL2.out];exact hq);clear hSd p0 p1 p2 g1 x0 x1 CK Ad A hB HO hb2 S2 HB;go_wp2;go_loopw [5,8] (fun v i wr=>∃j:Nat,j<=Kd.length/\i= .int .i64 j/\Hid (AI wr (w.heap.size+1) v (Sd++Kd.take j))/\Hid (AI wr (w.heap.size+1) (qV ka Kd.length kc) Kd)/\Hid (∀g,(Value.slice ka Kd.length kc).ownBlock=some g->some g≠v.ownBlock)/\Ag wr w n4/\qN w w wr) (fun _ i _=>Kd.length-(intOf i).toNat)
   case atStart=>exact⟨0,qy _,rfl,qC (by rw[List.take_zero,List.append_nil];exact V0.out),qC (K2.out.low hs1),KA,A2,B2⟩
   case round=>
    clear K2 KA A2 B2 V0;obtain⟨j,hj,rfl,HS,HKd,HAP,A,hB⟩:=hrel;by_cases hlt2:j<Kd.length
    ·obtain⟨y,ey⟩:∃y,Kd[j]? =some y:=⟨Kd[j],by simp[hlt2]⟩;obtain⟨kb,ko,rfl,_,kcc⟩:=AI.lies HKd.out qQ;have g1:wr.cell? ⟨kb,ko+j,none⟩=some (.int .i64 y):=kcc j _ (by simp[ey]);have i2:(j:Int)<(Kd.length:Int):=qQ;have L1:=qC (Ec.one (w:=wr) y);have n2:No (qG #[.int .i64 y] 2):=⟨⟩;have OA:=qC (AI.alloc HS.out n2);have KA2:=qC (AI.alloc HKd.out n2);have AA:=A.alloc n2;have B1:qN w w (wr.alloc n2):=hB.alloc hB.size _;have s1:w.heap.size+1<=(wr.alloc n2).heap.size:=(by have:=A.lt;simp;omega);have lm:(Sd++Kd.take j).length+1<=4194304:=(by rw[jU,xx];omega);have ET:Hid (Sd++Kd.take j++[y]=Sd++Kd.take (j+1)):=qC (by rw[zM,ey,List.append_assoc];rfl);have LE:Hid ((Sd++Kd.take (j+1)).length=Sd.length+(j+1)):=qC (by rw[jU,xx];omega);have FIN:Hid (∀(w3:World) (v3:Value),(wr.alloc n2).grownBy w3 u5.ownBlock->(v3.ownBlock=u5.ownBlock∨v3.ownBlock=some (wr.alloc n2).heap.size)->Ag w3 w (qG #[qV k.ta k.tn k.tk,qV k.oa k.on k.ok] 27)/\qN w w w3/\AI w3 (w.heap.size+1) (qV (some ⟨kb,ko,none⟩) Kd.length kc) Kd/\∀g,(Value.slice (some ⟨kb,ko,none⟩) Kd.length kc).ownBlock=some g->some g≠v3.ownBlock):=qC (fun w3 v3 g3 h3=>by
      refine⟨AA.grown g3 (fun e=>by have:=(qq.lt OA.out _ e.symm).1;omega),B1.trans (below_grown g3 B1.size (fun j hj=>by have:=(qq.lt OA.out j hj).1;omega)),KA2.out.of_block (fun g hg=>g3.block g (qq.lt KA2.out g hg).2 (HAP.out g hg)),fun g hg=>?_⟩;rcases h3 with h3|h3
      ·rw[h3];exact HAP.out g hg
      ·rw[h3];have:=(qq.lt KA2.out g hg).2;simp only[ne_eq,jV.injEq];omega)
     clear kcc ey HS HKd;go_wp2_with(refine Ep _ rfl _ _ rfl (w.heap.size+1) u5 (Sd++Kd.take j) rfl OA.out _ 1 1 [y] rfl rfl L1.out lm s1 ?_;intro a3 c3 w3 o3 g3 v3)
     rw[ET.out,LE.out]at o3 v3;obtain⟨f1,f2,f3,f4⟩:=FIN.out w3 _ g3 v3;exact⟨⟨j+1,by omega,by go_num,qC o3,qC f3,qC f4,f1,f2⟩,by simp[intOf];omega⟩
    ·have i2:¬(j:Int)<(Kd.length:Int):=qQ;have e:j=Kd.length:=qQ;have HS2:Hid (AI wr (w.heap.size+1) u5 ((Q++DU (fun i=>(k.O i).id) (fun i=>(k.O i).up) k.on a).map (fun i=>(k.O i).id))):=qC (by
      have:=HS.out;rw[e,List.take_length,EQ.out]at this;exact this)
     clear HS e HKd HAP;go_wp2;exact⟨⟨t+1,_,by rw[jU];omega,LQ.out,by go_num,NX,HS2,A,hB⟩,by simp[intOf];omega⟩
  ·have e:t=Q.length:=qQ;have i1:¬(t:Int)<(Q.length:Int):=qQ;have PUT:Hid (Eu (Q.map (fun i=>(k.O i).id))=CM ((Gk (fun i=>(k.O i).id) (fun i=>(k.O i).up) k.on k.on u).map (fun i=>(k.O i).id))):=qC (bS HR.out H0.out hu HC.out (by rw[<-e];exact HB.out));clear HB e;have ZL:Hid ((Q.map (fun i=>(k.O i).id)).length<=271):=qC (by rw[QL.out];exact hq);have OS:Hid (AI wr (w.heap.size+1) (qV sa (Q.map (fun i=>(k.O i).id)).length sc) (Q.map (fun i=>(k.O i).id))):=qC (by rw[QL.out];exact HO.out);have QL2:Hid ((Q.map (fun i=>(k.O i).id)).length=Q.length):=QL;clear HO QL;generalize hSd:Q.map (fun i=>(k.O i).id)=Sd at *;clear hSd;rw[<-QL2.out]at i1;rw[<-QL2.out];have tl:Sd.length<=271:=ZL.out;have OM:=qC (AI.made wr (w.heap.size+1) (by have:=A.lt;omega));have B1:qN w w (wr.alloc (qG #[] 2)):=hB.alloc hB.size _;have OS1:=qC (AI.alloc OS.out (qG #[] 2));go_wp2;generalize hWx:wr.alloc (qG #[] 2)=Wx at *;go_loopw [9,10] (fun v i wr'=>∃(q:Nat) (A':Addr) (c':Nat),q<=Sd.length/\i= .int .i64 q/\v= qV (some A') (Eu (Sd.take q)).length c'/\(Eu (Sd.take q)).length<=c'/\c'<=maxLen/\Hid (AI wr' (w.heap.size+1) (qV (some A') (Eu (Sd.take q)).length c') (Eu (Sd.take q)))/\Hid (AI wr' (w.heap.size+1) (qV sa Sd.length sc) Sd)/\qN w w wr') (fun _ i _=>Sd.length-(intOf i).toNat)
   case atStart=>exact⟨0,_,0,qy _,rfl,rfl,jP _,by unfold maxLen;omega,OM,OS1,B1⟩
   case round=>
    obtain⟨q,A',c',hqs,rfl,rfl,hc1,hc2,HP,HQ,hB'⟩:=hrel;clear OM OS1 B1;by_cases hlt2:q<Sd.length
    ·obtain⟨y,ey⟩:∃y,Sd[q]? =some y:=⟨Sd[q],by simp[hlt2]⟩;obtain⟨kb,ko,rfl,_,kcc⟩:=AI.lies HQ.out qQ;have g1:wr.cell? ⟨kb,ko+q,none⟩=some (.int .i64 y):=kcc q _ (by simp[ey]);have i2:(q:Int)<(Sd.length:Int):=qQ;have hln:(Eu (Sd.take q)).length<=1048576:=(by have:=WP (Sd.take q);rw[xx]at this;omega);have ET:Hid (Eh (Eu (Sd.take q)) y=Eu (Sd.take (q+1))):=qC (by
      rw[zM,ey];unfold Eu;rw[List.foldl_append];rfl)
     have C1:=qC (Ra A' c' (Eu (Sd.take q)) y wr hln hc1 hc2 (AI.lies HP.out));rw[ET.out]at C1;have PP:Hid (0<(Eu (Sd.take (q+1))).length):=qC (by rw[<-ET.out];exact aP _ _);clear kcc ey ET;go_wp2_with fail
     refine C1.out.mono ?_;rintro e w3 ⟨va,vc,rfl,o3,hb3⟩;obtain⟨g,rfl,z1,z2⟩:=o3.some_ PP.out;have HQ3:=qC (HQ.out.below hb3);have B3:=Af hB' hb3;have O3:=qC (o3.low (B':=w.heap.size+1) (by have:=qq.lt HP.out A'.block rfl;omega));clear o3 hb3 g1 C1 HP HQ hc1 hc2;go_wp2;exact⟨⟨q+1,_,vc,by omega,by go_num,rfl,z1,z2,O3,HQ3,B3⟩,by simp[intOf];omega⟩
    ·have i2:¬(q:Int)<(Sd.length:Int):=qQ;have e:q=Sd.length:=qQ;have HP2:Hid (AI wr w (qV (some A') (Eu (Sd.take q)).length c') (CM ((Gk (fun i=>(k.O i).id) (fun i=>(k.O i).up) k.on k.on u).map (fun i=>(k.O i).id)))):=qC (by
      rw[<-PUT.out];have h:=HP.out.low (B':=w.heap.size) qQ;have e2:Sd.take q=Sd:=(by rw[e,List.take_length]);rw[e2]at h ⊢;exact h)
     clear HP e PUT;go_wp2;go_ret;exact⟨_,rfl,HP2.out,hB'⟩
def Vw(k:Av)(x:Int):List Int:=if Bh k=true then(match Bq (fun i=>(k.O i).id) k.on x with
 |some u=>CM ((Gk (fun i=>(k.O i).id) (fun i=>(k.O i).up) k.on k.on u).map (fun i=>(k.O i).id))
 |none=>[])else[]
theorem aT{k:Av}(h:Bh k=true):∀j,j<k.on->(fun i=>(k.O i).id) j≠(fun i=>(k.O i).up) 0:=fun j hj=>by
 have ho:=(Cj h).2.1;have:=Et ho j hj;have:=(Cy ho).2.2;dsimp only;omega
theorem Kp{k:Av}(h:Bh k=true){u:Nat}(hu:u<k.on):Ii (fun i=>(k.O i).id) (fun i=>(k.O i).up) k.on u:=by
 obtain⟨m,_,e⟩:=Gv.1 (Cj h).2.2.2.2 u hu;exact Pq e
theorem Vv(k:Av)(x:Int):(Vw k x).length<=271:=by
 unfold Vw;split
 ·rename_i h;obtain⟨_,h2,_⟩:=Cv (Cj h).2.1;split
  ·rename_i u hu;obtain⟨hu,_⟩:=AH hu;rw[Hg,List.length_map];have:=Hh (IR (Ch (Cj h).2.1) (aT h) (f:=k.on) hu (Kp h hu)) (fun x hx=>((Fe (Ch (Cj h).2.1) (aT h) hu).1 hx).1);omega
  ·simp
 ·simp
open _root_.List renaming mem_range→jG
open _root_.Bool renaming and_eq_true→qz
inductive Wc(n:Nat) (O:Nat->Ab):Int->Prop
 |root:Wc n O (O 0).id
 |up {i:Nat} (h0:0<i) (hi:i<n) (h:Wc n O (O i).up):Wc n O (O i).id
variable {n:Nat}{x id:Int}{k:Av}
structure Wg(k:Av):Prop where
 thr:BH k.tn k.T=true
 lo:1<=k.on
 root:Gm (k.O 0)=true
 obj:∀i,i<k.on->CF (k.O i)=true
 rise:DK (fun i=>(k.O i).id) k.on
 num:∀i,0<i->i<k.on->FZ k.tn k.T (k.O i).id=true
 box:∀i,0<i->i<k.on->∃p,p<k.on/\(k.O p).id=(k.O i).up/\(k.O p).kind=3
 reach:∀i,i<k.on->Wc k.on k.O (k.O i).id
theorem Lt{ids:Nat->Int}(h:∀i,0<i->i<n->ids (i-1)<ids i):DK ids n:=by
 intro i j hij hj;induction j with
 |zero=>omega
 |succ j ih=>
  have h1:=h (j+1) qQ hj;have e:j+1-1=j:=by omega
  rw[e]at h1;by_cases e1:i=j
  ·subst e1;exact h1
  ·have:=ih qQ qQ;omega
theorem Ru{O:Nat->Ab}(h:DK (fun i=>(O i).id) n):Ga n O x=true↔∃p,p<n/\(O p).id=x/\(O p).kind=3:=by
 unfold Ga;constructor
 ·intro hh;cases e:Bq (fun i=>(O i).id) n x with
  |none=>rw[e]at hh;cases hh
  |some u=>
   rw[e]at hh;obtain⟨h1,h2⟩:=AH e;exact⟨u,h1,h2,by simpa using hh⟩
 ·rintro⟨p,h1,h2,h3⟩;have e:=Eg h h1;rw[h2]at e;rw[e];simpa using h3
theorem aG{O:Nat->Ab}:∀{m i:Nat},i<n->Bt (fun i=>(O i).id) (fun i=>(O i).up) n m i=some 0->Wc n O (O i).id
 |0,i,_,h=>by
  simp only[Bt,Option.some.injEq]at h;subst h;exact .root
 |m+1,i,hi,h=>by
  simp only[Bt]at h;cases e:J6 (fun i=>(O i).id) (fun i=>(O i).up) n i with
  |none=>rw[e]at h;cases h
  |some j=>
   rw[e]at h;have hj:=Oj e;have r:=aG hj h;unfold J6 at e;split at e
   ·cases e
   ·rename_i h0;have:=(AH e).2;simp only at this;rw[this]at r;exact .up qQ hi r
theorem bJ{O:Nat->Ab}(h0:0<n)(hx:Wc n O x):∃p,p<n/\(O p).id=x:=by
 induction hx with
 |root=>exact⟨0,h0,rfl⟩
 |@up q _ hq _ _=>exact⟨q,hq,rfl⟩
theorem bN{O:Nat->Ab}(h:DK (fun i=>(O i).id) n)(h0:0<n)(hx:Wc n O x):∀i,i<n->(O i).id=x->∃m,Bt (fun i=>(O i).id) (fun i=>(O i).up) n m i=some 0:=by
 induction hx with
 |root=>
  intro i hi e;have:i=0:=h.inj hi h0 e;subst this;exact⟨0,rfl⟩
 |@up j hj0 hj hu ih=>
  intro i hi e;have:i=j:=h.inj hi hj e;subst this;have hp:∃p,p<n/\(O p).id=(O i).up:=bJ h0 hu;obtain⟨p,hp1,hp2⟩:=hp;obtain⟨m,hm⟩:=ih p hp1 hp2;refine⟨m+1,?_⟩;have e1:J6 (fun i=>(O i).id) (fun i=>(O i).up) n i=some p:=by
   unfold J6;rw[if_neg qQ];have:=Eg h hp1;rw[hp2]at this;exact this
  simp only[Bt,e1,Option.bind_some];exact hm
theorem FX{T:Nat->Ae}(h:BH n T=true)(hn:FZ n T id=true):∃t,t<n/\(T t).id=id/1000/\1<=id%1000/\id%1000<=(T t).made:=by
 cases e:Bq (fun i=>(T i).id) n (id/1000)with
 |none=>rw[Lg h e]at hn;cases hn
 |some t=>
  obtain⟨h1,h2⟩:=AH e;rw[Jg h e]at hn;have:=CY.1 hn;exact⟨t,h1,h2,this.1,this.2⟩
theorem Vl{T:Nat->Ae}(h:BH n T=true){t:Nat}(h1:t<n)(h2:(T t).id=id/1000)(h3:1<=id%1000)(h4:id%1000<=(T t).made):FZ n T id=true:=by
 have e:=Eg (Kk h) h1;rw[h2]at e;rw[Jg h e];exact CY.2 ⟨h3,h4⟩
theorem Wg.few(h:Wg k):k.on<=271:=by
 have lo:=h.lo;let g:Nat->Nat:=fun i=>(((k.O (i+1)).id/1000-1)*30+((k.O (i+1)).id%1000-1)).toNat;have hg:∀i,i<k.on-1->1<=(k.O (i+1)).id/1000/\(k.O (i+1)).id/1000<=9/\1<=(k.O (i+1)).id%1000/\(k.O (i+1)).id%1000<=30:=fun i hi=>by
  obtain⟨t,t1,t2,t3,t4⟩:=FX h.thr (h.num (i+1) qQ qQ);obtain⟨_,_,hT⟩:=CZ h.thr;have hk:=OH (hT t t1);have h1:=Lr hk;have h2:=KM hk;omega
 have hl:((List.range (k.on-1)).map g).Nodup:=by
  rw[List.Nodup,List.pairwise_map];refine List.Pairwise.imp_of_mem ?_ (List.pairwise_lt_range (n:=k.on-1));intro a b ha hb hab e;have ha':=jG.1 ha;have hb':=jG.1 hb;have ga:=hg a ha';have gb:=hg b hb';have hr:=h.rise (a+1) (b+1) qQ qQ;simp only at hr;have e':g a=g b:=e;simp only[g]at e';omega
 have:=Hh (n:=270) hl (fun x hx=>by
  obtain⟨i,hi,rfl⟩:=List.mem_map.1 hx;have gi:=hg i (jG.1 hi);show g i<270;simp only[g];omega)
 simp at this;omega
theorem BU:Bh k=true↔Wg k:=by
 constructor
 ·intro h;have h1:BH k.tn k.T=true:=by
   cases e:BH k.tn k.T with
   |true=>rfl
   |false=>rw[Hc e]at h;cases h
  have h2:1<=k.on/\k.on<=271:=by
   by_cases e:1<=k.on/\k.on<=271
   ·exact e
   ·rw[IP e]at h;cases h
  rw[JD h1 h2.1 h2.2,qz]at h;have hs:=FI h.1;have hat:∀i,i<k.on->CF (k.O i)=true/\(if i=0 then Gm (k.O 0)else decide ((k.O (i-1)).id<(k.O i).id)&&FZ k.tn k.T (k.O i).id&&Ga k.on k.O (k.O i).up)=true:=fun i hi=>by
   have:=hs i hi;unfold Hr at this;exact Bool.and_eq_true_iff.1 this
  have hrest:∀i,0<i->i<k.on->(k.O (i-1)).id<(k.O i).id/\FZ k.tn k.T (k.O i).id=true/\Ga k.on k.O (k.O i).up=true:=fun i h0 hi=>by
   have:=(hat i hi).2;rw[if_neg qQ]at this;simp only[qz,decide_eq_true_eq]at this;exact⟨this.1.1,this.1.2,this.2⟩
  have hr:DK (fun i=>(k.O i).id) k.on:=Lt fun i h0 hi=>(hrest i h0 hi).1;refine⟨h1,h2.1,?_,fun i hi=>(hat i hi).1,hr,fun i h0 hi=>(hrest i h0 hi).2.1,fun i h0 hi=>(Ru hr).1 (hrest i h0 hi).2.2,fun i hi=>?_⟩
  ·have:=(hat 0 qQ).2;rw[if_pos rfl]at this;exact this
  ·obtain⟨m,_,hm⟩:=Gv.1 h.2 i hi;exact aG hi hm
 ·intro h;have h2:=h.few;rw[JD h.thr h.lo h2,qz];refine⟨Fc fun i hi=>?_,Gv.2 fun i hi=>?_⟩
  ·unfold Hr;rw[h.obj i hi,Bool.true_and];by_cases e:i=0
   ·rw[if_pos e];exact h.root
   ·rw[if_neg e];have hr:=h.rise (i-1) i qQ hi;simp only at hr;rw[h.num i qQ hi,(Ru h.rise).2 (h.box i qQ hi),decide_eq_true hr];rfl
  ·obtain⟨m,hm⟩:=bN h.rise (by have:=h.lo;omega) (h.reach i hi) i hi rfl;exact⟨m,Pn Gt hi hm,hm⟩
variable {n i p j:Nat}{k:Av}{x:Ab}
def Av.setT(k:Av)(t:Nat)(x:Ae):Av:={k with T:=fun j=>if j=t then x else k.T j}
def Av.setO(k:Av)(i:Nat)(x:Ab):Av:={k with O:=fun j=>if j=i then x else k.O j}
theorem Q5{T:Nat->Ae}(h1:1<=n)(h2:n<=9)(h:∀i,i<n->C8 (T i)=true)(hr:DK (fun i=>(T i).id) n):BH n T=true:=by
 unfold BH;simp only[Bool.and_eq_true,decide_eq_true_eq];refine⟨⟨h1,h2⟩,Fc fun i hi=>?_⟩;unfold Ej;rw[h i hi,Bool.true_and];by_cases e:i=0
 ·subst e;rfl
 ·have:=hr (i-1) i qQ hi;simp only at this;simp[this]
theorem Wg.setT(h:Wg k){t:Nat}{x:Ae}(hx:C8 x=true)(qC:x.id=(k.T t).id)(hm:(k.T t).made<=x.made):Wg (k.setT t x):=by
 obtain⟨n1,n9,hT⟩:=CZ h.thr;have ids:∀j,((k.setT t x).T j).id=(k.T j).id:=fun j=>by
  show(if j=t then x else k.T j).id=_;split
  ·rename_i e;rw[e,qC]
  ·rfl
 have mades:∀j,(k.T j).made<=((k.setT t x).T j).made:=fun j=>by
  show _<=(if j=t then x else k.T j).made;split
  ·rename_i e;rw[e];exact hm
  ·exact Int.le_refl _
 have hthr:BH (k.setT t x).tn (k.setT t x).T=true:=by
  refine Q5 n1 n9 (fun i hi=>?_) (fun i j hij hj=>?_)
  ·show C8 (if i=t then x else k.T i)=true;split
   ·exact hx
   ·exact OH (hT i hi)
  ·simp only;rw[ids,ids];exact Kk h.thr i j hij hj
 refine⟨hthr,h.lo,h.root,h.obj,h.rise,fun i h0 hi=>?_,h.box,h.reach⟩;obtain⟨u,u1,u2,u3,u4⟩:=FX h.thr (h.num i h0 hi);exact Vl hthr (t:=u) u1 ((ids u).trans u2) u3 (Int.le_trans u4 (mades u))
theorem XX{O P:Nat->Ab}(h0:(P 0).id=(O 0).id)(h1:∀i,i<n->(P i).id=(O i).id/\(P i).up=(O i).up){x:Int}(hx:Wc n O x):Wc n P x:=by
 induction hx with
 |root=>rw[<-h0];exact .root
 |@up i i0 hi _ ih=>
  rw[<-(h1 i hi).1];refine .up i0 hi ?_;rw[(h1 i hi).2];exact ih
theorem Wg.setO(h:Wg k)(hx:CF x=true)(h1:x.id=(k.O i).id)(h2:x.kind=(k.O i).kind)(h3:x.up=(k.O i).up):Wg (k.setO i x):=by
 have same:∀j,((k.setO i x).O j).id=(k.O j).id/\((k.setO i x).O j).kind=(k.O j).kind/\((k.setO i x).O j).up=(k.O j).up:=fun j=>by
  show(if j=i then x else k.O j).id=_/\(if j=i then x else k.O j).kind=_/\(if j=i then x else k.O j).up=_;split
  ·rename_i e;rw[e];exact⟨h1,h2,h3⟩
  ·exact⟨rfl,rfl,rfl⟩
 refine⟨h.thr,h.lo,?_,fun j hj=>?_,fun a b hab hb=>?_,fun j j0 hj=>?_,fun j j0 hj=>?_,fun j hj=>?_⟩
 ·have:=h.root;unfold Gm at this ⊢;rw[(same 0).1,(same 0).2.1,(same 0).2.2];exact this
 ·show CF (if j=i then x else k.O j)=true;split
  ·exact hx
  ·exact h.obj j hj
 ·simp only;rw[(same a).1,(same b).1];exact h.rise a b hab hb
 ·rw[(same j).1];exact h.num j j0 hj
 ·obtain⟨p,p1,p2,p3⟩:=h.box j j0 hj;exact⟨p,p1,by rw[(same p).1,(same j).2.2];exact p2,by rw[(same p).2.1];exact p3⟩
 ·rw[(same j).1];exact XX (same 0).1 (fun i _=>⟨(same i).1,(same i).2.2⟩) (h.reach j hj)
def Gq(O:Nat->Ab)(p:Nat)(x:Ab)(j:Nat):Ab:=if j<p then O j else if j=p then x else O (j-1)
def Av.ins(k:Av)(p:Nat)(x:Ab):Av:={k with on:=k.on+1,O:=Gq k.O p x}
theorem Lm{O:Nat->Ab}(h:j<p):Gq O p x j=O j:=by unfold Gq;rw[if_pos h]
theorem Xe{O:Nat->Ab}:Gq O p x p=x:=by unfold Gq;rw[if_neg (Nat.lt_irrefl _),if_pos rfl]
theorem SR{O:Nat->Ab}(h:p<j):Gq O p x j=O (j-1):=by unfold Gq;rw[if_neg qQ,if_neg qQ]
theorem Vp{O:Nat->Ab}(j:Nat):∃i,i<=j+1/\j<=i/\Gq O p x i=O j/\(0<j->0<i):=by
 by_cases e:j<p
 ·exact⟨j,by omega,by omega,Lm e,fun h=>h⟩
 ·refine⟨j+1,by omega,by omega,?_,fun _=>by omega⟩;rw[SR qQ];rfl
theorem Wg.ins(h:Wg k)(p0:0<p)(hp:p<=k.on)(hlo:∀j,j<p->(k.O j).id<x.id)(hhi:∀j,p<=j->j<k.on->x.id<(k.O j).id)(hx:CF x=true)(hn:FZ k.tn k.T x.id=true)(hb:∃q,q<k.on/\(k.O q).id=x.up/\(k.O q).kind=3):Wg (k.ins p x):=by
 have e0:Gq k.O p x 0=k.O 0:=Lm p0;have cases3:∀j,j<k.on+1->(j<p/\Gq k.O p x j=k.O j)∨(j=p/\Gq k.O p x j=x)∨(p<j/\j-1<k.on/\Gq k.O p x j=k.O (j-1)):=fun j hj=>by
  by_cases e1:j<p
  ·exact .inl ⟨e1,Lm e1⟩
  ·by_cases e2:j=p
   ·exact .inr (.inl ⟨e2,by rw[e2];exact Xe⟩)
   ·exact .inr (.inr ⟨by omega,by omega,SR qQ⟩)
 have mono:∀{y:Int},Wc k.on k.O y->Wc (k.on+1) (Gq k.O p x) y:=fun{y} hy=>by
  induction hy with
  |root=>rw[<-e0];exact .root
  |@up i i0 hi _ ih=>
   obtain⟨j,j1,_,j2,j3⟩:=Vp (O:=k.O) (p:=p) (x:=x) i;rw[<-j2];refine .up (j3 i0) qQ ?_;rw[j2];exact ih
 obtain⟨q,q1,q2,q3⟩:=hb;refine⟨h.thr,by show 1<=k.on+1;omega,?_,fun j hj=>?_,Lt fun j j0 hj=>?_,fun j j0 hj=>?_,fun j j0 hj=>?_,fun j hj=>?_⟩
 ·show Gm (Gq k.O p x 0)=true;rw[e0];exact h.root
 ·show CF (Gq k.O p x j)=true;rcases cases3 j hj with⟨c,e⟩|⟨_,e⟩|⟨_,c,e⟩<;>rw[e]
  ·exact h.obj j qQ
  ·exact hx
  ·exact h.obj _ c
 ·show(Gq k.O p x (j-1)).id<(Gq k.O p x j).id;rcases cases3 j hj with⟨c,e⟩|⟨c,e⟩|⟨c,c2,e⟩
  ·rw[e,Lm qQ];exact h.rise (j-1) j qQ qQ
  ·rw[e,Lm qQ];exact hlo _ qQ
  ·rw[e];by_cases e3:j-1=p
   ·rw[e3,Xe];exact hhi p nr qQ
   ·rw[SR qQ];exact h.rise (j-1-1) (j-1) qQ qQ
 ·show FZ k.tn k.T (Gq k.O p x j).id=true;rcases cases3 j hj with⟨c,e⟩|⟨_,e⟩|⟨c,c2,e⟩<;>rw[e]
  ·exact h.num j j0 qQ
  ·exact hn
  ·exact h.num (j-1) qQ c2
 ·have J6:∀{y:Int},(∃q,q<k.on/\(k.O q).id=y/\(k.O q).kind=3)->∃r,r<k.on+1/\(Gq k.O p x r).id=y/\(Gq k.O p x r).kind=3:=fun⟨q,q1,q2,q3⟩=>by
   obtain⟨r,r1,_,r2,_⟩:=Vp (O:=k.O) (p:=p) (x:=x) q;exact⟨r,by omega,by rw[r2];exact q2,by rw[r2];exact q3⟩
  show ∃r,r<k.on+1/\(Gq k.O p x r).id=(Gq k.O p x j).up/\(Gq k.O p x r).kind=3;rcases cases3 j hj with⟨c,e⟩|⟨_,e⟩|⟨c,c2,e⟩<;>rw[e]
  ·exact J6 (h.box j j0 qQ)
  ·exact J6 ⟨q,q1,q2,q3⟩
  ·exact J6 (h.box (j-1) qQ c2)
 ·show Wc (k.on+1) (Gq k.O p x) (Gq k.O p x j).id;rcases cases3 j hj with⟨c,e⟩|⟨c,e⟩|⟨c,c2,e⟩
  ·rw[e];exact mono (h.reach j qQ)
  ·refine .up qQ hj ?_;rw[e,<-q2];exact mono (h.reach q q1)
  ·rw[e];exact mono (h.reach _ c2)
def Fl(n:Nat)(keep:Nat->Bool):List Nat:=(List.range n).filter keep
def Av.cut(k:Av)(keep:Nat->Bool):Av:={k with on:=(Fl k.on keep).length,O:=fun j=>k.O ((Fl k.on keep).getD j 0)}
theorem Gp{keep:Nat->Bool}(hj:j<(Fl n keep).length):(Fl n keep).getD j 0<n/\keep ((Fl n keep).getD j 0)=true:=by
 have e:(Fl n keep).getD j 0=(Fl n keep)[j]:=by simp[List.getD,hj]
 have hm:=List.getElem_mem hj;rw[e];obtain⟨h1,h2⟩:=List.mem_filter.1 hm;exact⟨jG.1 h1,h2⟩
theorem Kx{keep:Nat->Bool}(hi:i<n)(hk:keep i=true):∃j,j<(Fl n keep).length/\(Fl n keep).getD j 0=i:=by
 have hm:i∈Fl n keep:=List.mem_filter.2 ⟨jG.2 hi,hk⟩;obtain⟨j,hj,e⟩:=List.getElem_of_mem hm;exact⟨j,hj,by simp[List.getD,hj,e]⟩
theorem Lh{keep:Nat->Bool}{a b:Nat}(hab:a<b)(hb:b<(Fl n keep).length):(Fl n keep).getD a 0<(Fl n keep).getD b 0:=by
 have hp:(Fl n keep).Pairwise (· <·):=List.Pairwise.sublist List.filter_sublist (List.pairwise_lt_range (n:=n));have:=List.pairwise_iff_getElem.1 hp a b qQ hb hab;simpa[List.getD,hb,show a<(Fl n keep).length by omega]using this
theorem Wg.cut(h:Wg k){keep:Nat->Bool}(k0:keep 0=true)(hup:∀i p,0<i->i<k.on->p<k.on->(k.O p).id=(k.O i).up->keep i=true->keep p=true):Wg (k.cut keep):=by
 have lo:=h.lo;obtain⟨z,z1,z2⟩:=Kx (keep:=keep) (show 0<k.on by omega) k0;have zz:z=0:=by
  by_cases e:z=0
  ·exact e
  ·have:=Lh (n:=k.on) (keep:=keep) (a:=0) (b:=z) qQ z1;omega
 rw[zz]at z1 z2;have eO:∀j,(k.cut keep).O j=k.O ((Fl k.on keep).getD j 0):=fun _=>rfl;have e0:(k.cut keep).O 0=k.O 0:=by rw[eO,z2]
 have pos:∀{j},0<j->j<(Fl k.on keep).length->0<(Fl k.on keep).getD j 0:=fun{j} j0 hj=>by
  have:=Lh (n:=k.on) (keep:=keep) (a:=0) (b:=j) j0 hj;omega
 have stay:∀{y:Int},Wc k.on k.O y->∀i,i<k.on->(k.O i).id=y->keep i=true->Wc (Fl k.on keep).length (k.cut keep).O y:=fun{y} hy=>by
  induction hy with
  |root=>intro i _ _ _;rw[<-e0];exact .root
  |@up j j0 hj hu ih=>
   intro i hi e hk;have:i=j:=h.rise.inj hi hj e;subst this;obtain⟨m,m1,m2⟩:=Kx (keep:=keep) hi hk;have em:(k.cut keep).O m=k.O i:=(by rw[eO,m2]);rw[<-em];have m0:0<m:=by
    by_cases e:m=0
    ·rw[e,z2]at m2;omega
    ·omega
   refine .up m0 m1 ?_;rw[em];obtain⟨p,p1,p2,_⟩:=h.box i j0 hj;exact ih p p1 p2 (hup i p j0 hj p1 p2 hk)
 refine⟨h.thr,z1,?_,fun j hj=>?_,fun a b hab hb=>?_,fun j j0 hj=>?_,fun j j0 hj=>?_,fun j hj=>?_⟩
 ·rw[e0];exact h.root
 ·rw[eO];exact h.obj _ (Gp hj).1
 ·simp only;rw[eO,eO];exact h.rise _ _ (Lh hab hb) (Gp hb).1
 ·rw[eO];exact h.num _ (pos j0 hj) (Gp hj).1
 ·rw[eO];obtain⟨p,p1,p2,p3⟩:=h.box _ (pos j0 hj) (Gp hj).1;obtain⟨m,m1,m2⟩:=Kx (keep:=keep) p1 (hup _ p (pos j0 hj) (Gp hj).1 p1 p2 (Gp hj).2);exact⟨m,m1,by rw[eO,m2];exact p2,by rw[eO,m2];exact p3⟩
 ·rw[eO];exact stay (h.reach _ (Gp hj).1) _ (Gp hj).1 rfl (Gp hj).2
open Go.BigFrame
open Go.Value renaming pointer→pT,bool→qU,int→iT
open Go.IntKind renaming i64→qH
open _root_.List renaming set→qF,getElem_mem→qk,take_succ_eq_append_getElem→zC,filter_append→zU
open _root_.Nat renaming le_trans→qj
variable {w:World}{B ca co u j:Nat}{ta oa:Option Addr}{lt:List Ae}{lo:List Ab}{x:Int}{G:List Int}
theorem AI.form{v:Value}{l:List Int}(h:AI w B v l):∃a c,v= qV a l.length c:=by
 rcases h.2 with⟨hv,hl⟩|⟨g,cap,cur,hv,_⟩
 ·exact⟨none,0,by rw[hv,hl]⟩
 ·exact⟨_,_,hv⟩
def Ci(lo:List Ab)(u:Nat):List Int:=CM ((Gk (fun i=>(Aa lo i).id) (fun i=>(Aa lo i).up) lo.length lo.length u).map (fun i=>(Aa lo i).id))
theorem aZ(h:Bz w B (qV ta lt.length ca) (qV oa lo.length co) lt lo)(h1:lt.length<=1048576)(h2:lo.length<=1048576)(h3:∀x∈lo,x.data.size<=maxLen)(ok:Bh (Df ta ca oa co lt lo)=true)(hu:Hq lo x=some u):
 Calls prog 97 #[.agg #[qV ta lt.length ca,qV oa lo.length co],iT qH x] w fun e w'=>∃a c,e= .returned (qV a (Ci lo u).length c)/\AI w' w (qV a (Ci lo u).length c) (Ci lo u)/\qN w w w':=by
 obtain⟨u1,u2⟩:=AH hu;have hh:=Ub (Df ta ca oa co lt lo) u w (h.at h1 h2 h3) (Cj ok).2.1 u1 (Kp ok u1);have e:((Df ta ca oa co lt lo).O u).id=x:=u2;rw[e]at hh;refine hh.mono ?_;rintro e w' ⟨v,rfl,h1,h2⟩;obtain⟨a,c,rfl⟩:=h1.form;exact⟨a,c,rfl,h1,h2⟩
theorem YD(ok:Bh (Df ta ca oa co lt lo)=true)(hu:Hq lo x=some u):(Ci lo u).length<=271:=by
 have h:=Vv (Df ta ca oa co lt lo) x;unfold Vw at h;rw[if_pos ok]at h;have e:Bq (fun i=>((Df ta ca oa co lt lo).O i).id) (Df ta ca oa co lt lo).on x=some u:=hu;rw[e]at h;exact h
theorem fB(ok:Bh (Df ta ca oa co lt lo)=true)(u0:0<u)(hu:u<lo.length):∃p,Hq lo (lo[u]).up=some p:=by
 have k:=BU.1 ok;obtain⟨p,p1,p2,_⟩:=k.box u u0 hu;have e:=Eg k.rise p1;have e1:Aa lo u=lo[u]:=by simp[Aa,hu]
 have e2:((Df ta ca oa co lt lo).O u).up=lo[u].up:=by rw[<-e1];rfl
 refine⟨p,?_⟩;rw[<-e2,<-p2];exact e
def Fa(G:List Int)(lo:List Ab)(j:Nat):List Ab:=(lo.take j).filter (fun o=> !hasB G.length (AZ G) o.id)
theorem Oq(hj:j<lo.length)(h:hasB G.length (AZ G) lo[j].id=true):Fa G lo (j+1)=Fa G lo j:=by
 unfold Fa;rw[zC hj,zU];simp[h]
theorem WR(hj:j<lo.length)(h:hasB G.length (AZ G) lo[j].id=false):Fa G lo (j+1)=Fa G lo j++[lo[j]]:=by
 unfold Fa;rw[zC hj,zU];simp[h]
theorem Xl(G:List Int)(lo:List Ab)(j:Nat):(Fa G lo j).length<=j:=by
 unfold Fa;refine qj (List.length_filter_le _ _) ?_;simp;omega
def Hj(X:Ae)(lo:List Ab)(x:Int):Bool:=match Hq lo x with
 |some u=>decide (0<u)&&(match Hq lo (Aa lo u).up with
  |some p=>Ap X (Aa lo p).b1 (Aa lo p).c1
  |none=>false)
 |none=>false
def cZ(X:Ae)(s:Aj)(lo:List Ab)(c:Int)(lo':List Ab):Prop:=
 (c=4/\Hj X lo s.id=false/\lo'=lo)∨(c=0/\Hj X lo s.id=true/\∃u,Hq lo s.id=some u/\0<u/\lo'=Fa (Ci lo u) lo lo.length)
theorem VA(lt:List Ae)(lo:List Ab)(g ca q co B:Nat)(w:World)(st:Bz w B (qV g lt.length ca) (qV q lo.length co) lt lo)(hB:B<=w.heap.size)(t:Nat)(ht:t<lt.length)(X:Ae)(hX:X=lt[t])(xs:X.small)(s:Aj)
 (ra:FF X.c1)(hl1:lt.length<=1048576)(hl2:lo.length<=1048000)(hd:∀x∈lo,x.data.size<=maxLen)(hO:∀x∈lo,x.c1.n<=1048576/\FF x.c1)(ok:Bh (Df (some ⟨g,0,none⟩) ca (some ⟨q,0,none⟩) co lt lo)=true):
 Calls prog 46 #[.agg #[qV g lt.length ca,qV q lo.length co],iT qH t,.agg s] w fun e w'=>∃(lo':List Ab) (ob:Option Addr) (cb:Nat) (c:Int),e= .returned (.tuple #[.agg #[qV g lt.length ca,qV ob lo'.length cb],iT qH c,.string ⟨#[]⟩])/\Bz w' B (qV g lt.length ca) (qV ob lo'.length cb) lt lo'/\qN B w w'/\cZ X s lo c lo':=by
 obtain⟨th,kd,id_,to_,cat,dat,sb1,sc1,sb2,sc2⟩:=s;simp only;have XA:Hid (X.at w):=qC (by rw[hX];exact(st.tn _ (qk ht)).at);have OK:=qC ok;have n11:No (.cells #[th,kd,id_,to_,cat,.string dat,sb1,sc1,sb2,sc2] 50):=⟨⟩;have n13:No (.cells #[qV g lt.length ca,qV q lo.length co] 27):=⟨⟩;have n15:No (.cells #[qV none 0 0,qV none 0 0] 27):=⟨⟩;have n10:Nw (((w.alloc n13).alloc n11).alloc n15):=⟨⟩;have b0:qN w w n10:=((Bg w _).alloc sI _).alloc sO _;have A0:Ag n10 w n13:=((Ag.new w _).alloc _).alloc _;have P0:Ag n10 (w.heap.size+1) n11:=by have:=(Ag.new (w.alloc n13) n11).alloc n15;simpa using this
 have R0:Ag n10 (w.heap.size+1+1) n15:=by have:=Ag.new ((w.alloc n13).alloc n11) n15;simpa using this
 have HS:=qC (st.below b0);have HB:=qC b0;have HA:=qC A0;have HP:=qC P0;have HR:=qC R0;have EX:=qC hX;have i0:(0:Int)<=(t:Int):=by omega
 have i1:(t:Int)<(lt.length:Int):=by omega
 clear b0 A0 P0 R0 hX st ok;go_enter func46,ntmps46
 obtain⟨x0,x1⟩:=HA.out.two;obtain⟨s0,s1,s2,s3,s4,s5,s6,s7,s8,s9⟩:=HP.out.jE;go_wp2_with fail
 have BX:Hid (∀W,qN (n10:World).heap.size n10 W->Ag W w n13/\Ag W (w.heap.size+1) n11/\Ag W (w.heap.size+1+1) n15/\Bz W B (qV g lt.length ca) (qV q lo.length co) lt lo):=qC (fun W hW=>⟨HA.out.below hW,HP.out.below hW,HR.out.below hW,HS.out.below hW⟩);have LW:Hid (∀W,qN (n10:World).heap.size n10 W->qN w w W):=qC (fun W hW=>Af HB hW);have LB:Hid (∀W,qN (n10:World).heap.size n10 W->qN B w W):=qC (fun W hW=>(Af HB hW).mono hB);have V0:=qC (Below.refl (n10:World).heap.size n10);clear x0 x1 s0 s1 s2 s3 s4 s5 s6 s7 s8 s9 HA HP HR HS;generalize (n10:World)=V at *;refine(Pb (BX _ V0).2.2.2 hl1 qQ hd id_).mono ?_;rintro e w1 ⟨rfl,hb1⟩;have V1:=qC (Af V0 hb1);clear hb1;have D0:=qC (Az V1);have MB:Hid (Hj X lo id_=match Hq lo id_ with|some u=>decide (0<u)&&(match Hq lo (Aa lo u).up with|some p=>Ap X (Aa lo p).b1 (Aa lo p).c1|none=>false)|none=>false):=qC rfl;cases hu:Hq lo id_ with
 |none=>
  rw[hu]at MB;simp only[GX]at MB ⊢;have j0:decide (((-1:Int))<1)=true:=rfl;go_wp2_with fail
  refine Am 24 (fun W=>qN V V W) kR ?_;refine tr 0 17 (iT qH (-1)) D0 ?_;refine tr 1 18 (qU true) D0 ?_;refine tr 2 19 (qU true) D0 ?_;refine Qx 20 [(3,20),(4,21),(5,22),(6,23),(7,24),(8,25),(9,26),(10,27),(11,28),(12,29),(13,30),(14,31),(15,32),(16,33),(17,34),(18,35),(19,36),(20,37),(21,38),(22,39)] rfl kR D0 ?_;simp only[Fh,ap,qF];refine tr 23 40 (qU true) D0 ?_;refine Ai kR ?_ _;have VL:=qC (D0.out);clear D0;generalize w1.drew=wd at *;obtain⟨x0,x1⟩:=(BX _ VL).1.two;obtain⟨s0,s1,s2,s3,s4,s5,s6,s7,s8,s9⟩:=(BX _ VL).2.1.jE;obtain⟨r0,r1⟩:=(BX _ VL).2.2.1.two;have rf:=(BX _ VL).2.2.1.jC;go_wp2;have RB:=qC (BX.out _ VL).2.2.1;have KB:=qC (BX.out _ VL).2.2.2;refine bodyPost_ret (Al _ _ (w.heap.size+1+1) 6 _ _ _ _ Tryz.results46 ((RB.out.jB (i:=0) _).jB (i:=1) _) rfl rfl rfl) rfl ⟨lo,some ⟨q,0,none⟩,co,4,rfl,?_,?_,.inl ⟨rfl,MB,rfl⟩⟩
  ·exact(KB.out.set RB (.inl rfl) _).set (RB.out.jB (i:=0) _) (.inl rfl) _
  ·exact((LB _ VL).setCell qJ _).setCell qJ _
 |some u=>
  cases u with
  |zero=>
   rw[hu]at MB;have MB2:Hid (Hj X lo id_=false):=qC (by rw[MB.out];rfl);clear MB;have MB:=MB2;simp only[GX,Int.ofNat_zero]at⊢;have j0:decide (((0:Int))<1)=true:=rfl;go_wp2_with fail
   refine Am 24 (fun W=>qN V V W) kR ?_;refine tr 0 17 (iT qH 0) D0 ?_;refine tr 1 18 (qU true) D0 ?_;refine tr 2 19 (qU true) D0 ?_;refine Qx 20 [(3,20),(4,21),(5,22),(6,23),(7,24),(8,25),(9,26),(10,27),(11,28),(12,29),(13,30),(14,31),(15,32),(16,33),(17,34),(18,35),(19,36),(20,37),(21,38),(22,39)] rfl kR D0 ?_;simp only[Fh,ap,qF];refine tr 23 40 (qU true) D0 ?_;refine Ai kR ?_ _;have VL:=qC (D0.out);clear D0;generalize w1.drew=wd at *;obtain⟨x0,x1⟩:=(BX _ VL).1.two;obtain⟨s0,s1,s2,s3,s4,s5,s6,s7,s8,s9⟩:=(BX _ VL).2.1.jE;obtain⟨r0,r1⟩:=(BX _ VL).2.2.1.two;have rf:=(BX _ VL).2.2.1.jC;go_wp2;have RB:=qC (BX.out _ VL).2.2.1;have KB:=qC (BX.out _ VL).2.2.2;refine bodyPost_ret (Al _ _ (w.heap.size+1+1) 6 _ _ _ _ Tryz.results46 ((RB.out.jB (i:=0) _).jB (i:=1) _) rfl rfl rfl) rfl ⟨lo,some ⟨q,0,none⟩,co,4,rfl,?_,?_,.inl ⟨rfl,MB,rfl⟩⟩
   ·exact(KB.out.set RB (.inl rfl) _).set (RB.out.jB (i:=0) _) (.inl rfl) _
   ·exact((LB _ VL).setCell qJ _).setCell qJ _
  |succ u'=>
   obtain⟨u,eu⟩:∃u,u=u'+1:=⟨_,rfl⟩;rw[<-eu]at hu ⊢;have u0:0<u:=qQ;clear eu;obtain⟨ul,ei⟩:=Ht hu;obtain⟨p,hp⟩:=fB OK u0 ul;obtain⟨pl,ep⟩:=Ht hp;have eo:Aa lo u=lo[u]:=(by simp[Aa,ul]);have eb:Aa lo p=lo[p]:=(by simp[Aa,pl]);have MB2:Hid (Hj X lo id_=Ap X (lo[p]).b1 (lo[p]).c1):=qC (by rw[MB.out,hu];simp only[eo,hp,eb,u0,decide_true,Bool.true_and]);clear MB;have MB:=MB2;clear MB2;obtain⟨o,ho⟩:∃o,o=lo[u]:=⟨_,rfl⟩;obtain⟨b,hb⟩:∃o,o=lo[p]:=⟨_,rfl⟩;have HOb:=qC (hO _ (qk pl));rw[<-hb]at MB HOb;rw[<-ho]at hp;have EO:=qC ho;have EB:=qC hb;have HU:=qC hu;have HP:=qC hp;have U0:=qC u0;simp only[GX];have j0:decide (((u:Nat):Int)<1)=false:=decide_eq_false qQ;have j1:(u:Int)<(lo.length:Int):=qQ;have j2:(0:Int)<=(u:Int):=qQ;have j3:(p:Int)<(lo.length:Int):=qQ;have j4:(0:Int)<=(p:Int):=qQ;clear ei ep eo eb ho hb hu hp u0;have OC:Hid (∀W,qN V V W->W.cell? ⟨q,u*10,none⟩=some (iT qH o.id)/\W.cell? ⟨q,u*10+1,none⟩=some (iT qH o.kind)/\W.cell? ⟨q,u*10+2,none⟩=some (iT qH o.up)/\W.cell? ⟨q,u*10+3,none⟩=some (iT qH o.b1)/\W.cell? ⟨q,u*10+4,none⟩=some (qV o.c1.a o.c1.n o.c1.k)/\W.cell? ⟨q,u*10+5,none⟩=some (.string o.data)/\W.cell? ⟨q,u*10+6,none⟩=some (qV o.jA.a o.jA.n o.jA.k)/\W.cell? ⟨q,u*10+7,none⟩=some (qV o.own.a o.own.n o.own.k)/\W.cell? ⟨q,u*10+8,none⟩=some (iT qH o.b2)/\W.cell? ⟨q,u*10+9,none⟩=some (qV o.c2.a o.c2.n o.c2.k)):=qC (fun W hW=>by
    have C:=((BX _ hW).2.2.2.jF ul hd).1;rw[<-EO.out]at C;exact⟨C.c0,C.c1,C.c2,C.c3,C.c4,C.c5,C.c6,C.c7,C.c8,C.c9⟩)
   have PC:Hid (∀W,qN V V W->W.cell? ⟨q,p*10,none⟩=some (iT qH b.id)/\W.cell? ⟨q,p*10+1,none⟩=some (iT qH b.kind)/\W.cell? ⟨q,p*10+2,none⟩=some (iT qH b.up)/\W.cell? ⟨q,p*10+3,none⟩=some (iT qH b.b1)/\W.cell? ⟨q,p*10+4,none⟩=some (qV b.c1.a b.c1.n b.c1.k)/\W.cell? ⟨q,p*10+5,none⟩=some (.string b.data)/\W.cell? ⟨q,p*10+6,none⟩=some (qV b.jA.a b.jA.n b.jA.k)/\W.cell? ⟨q,p*10+7,none⟩=some (qV b.own.a b.own.n b.own.k)/\W.cell? ⟨q,p*10+8,none⟩=some (iT qH b.b2)/\W.cell? ⟨q,p*10+9,none⟩=some (qV b.c2.a b.c2.n b.c2.k)):=qC (fun W hW=>by
    have C:=((BX _ hW).2.2.2.jF pl hd).1;rw[<-EB.out]at C;exact⟨C.c0,C.c1,C.c2,C.c3,C.c4,C.c5,C.c6,C.c7,C.c8,C.c9⟩)
   have TC:Hid (∀W,qN V V W->W.cell? ⟨g,t*7,none⟩=some (iT qH X.id)/\W.cell? ⟨g,t*7+1,none⟩=some (iT qH X.b1)/\W.cell? ⟨g,t*7+2,none⟩=some (qV X.c1.a X.c1.n X.c1.k)/\W.cell? ⟨g,t*7+3,none⟩=some (iT qH X.b2)/\W.cell? ⟨g,t*7+4,none⟩=some (qV X.c2.a X.c2.n X.c2.k)/\W.cell? ⟨g,t*7+5,none⟩=some (qV X.own.a X.own.n X.own.k)/\W.cell? ⟨g,t*7+6,none⟩=some (iT qH X.made)):=qC (fun W hW=>by
    have C:=((BX _ hW).2.2.2.jJ ht).1;rw[<-EX.out]at C;exact⟨C.c0,C.c1,C.c2,C.c3,C.c4,C.c5,C.c6⟩)
   have E1:Hid (∀args w,(callFunc 23 args).run prog w= .ok (.enter 23 args) w):=qC (enters_of func23 kR rfl);have E2:Hid (∀args w,(callFunc 95 args).run prog w= .ok (.enter 95 args) w):=qC (enters_of func95 kR rfl);have n14:Na #[qV g lt.length ca,qV q lo.length co]:=⟨⟩;have F1:Hid (∀W,qN V V W->Calls prog 23 #[.agg n14,o.up] W fun e w'=>∃v,e= .returned v/\(v= iT qH p/\qN W W w')):=qC (fun W hW=>by
    have h:=Pb (BX _ hW).2.2.2 hl1 qQ hd o.up;rw[HP.out]at h;exact Ez h)
   have n16:Na #[b.b1,b.c1]:=⟨⟩;have F2:Hid (∀W,qN V V W->Calls prog 95 #[.agg X,.agg n16] W fun e w'=>∃v,e= .returned v/\(v= qU (Ap X b.b1 b.c1)/\qN W W w')):=qC (fun W hV=>Ez<|Hd X b.b1 b.c1 W (XA.out.below (LW _ hV)) xs ra (by
    have:=((BX _ hV).2.2.2.on _ (qk pl)).1.1;rw[<-EB.out]at this;exact this) HOb.out.1 HOb.out.2)
   generalize Ap X b.b1 b.c1=c2 at *;cases c2 with
   |false=>
    go_wp2_with fail
    refine Am 24 (fun W=>qN V V W) kR ?_;refine tr 0 17 (iT qH u) D0 ?_;refine tr 1 18 (qU false) D0 ?_;refine tr 2 19 (qU false) D0 ?_;refine tr 3 20 (pT (w)) D0 ?_;refine tr 4 21 (qV g lt.length ca) D0 ?_ (hy:=fun W h=>by obtain⟨z0,z1⟩:=(BX W h).1.two;go_simp);refine tr 5 22 (iT qH t) D0 ?_;refine tr 6 23 (pT (some ⟨g,t*7,none⟩)) D0 ?_;refine tr 7 24 (.agg X) D0 ?_ (hy:=fun W h=>by obtain⟨z0,z1,z2,z3,z4,z5,z6⟩:=TC.out W h;go_simp);have n19:Nv (pT (some ⟨w,1,none⟩)):=⟨⟩;refine tr 8 25 n19 D0 ?_;have n17:Nv (qV q lo.length co):=⟨⟩;refine tr 9 26 n17 D0 ?_ (hy:=fun W h=>by obtain⟨z0,z1⟩:=(BX W h).1.two;go_simp);refine tr 10 27 (.agg n14) D0 ?_ (hy:=fun W h=>by obtain⟨z0,z1⟩:=(BX W h).1.two;go_simp);refine tr 11 28 n19 D0 ?_;refine tr 12 29 n17 D0 ?_ (hy:=fun W h=>by obtain⟨z0,z1⟩:=(BX W h).1.two;go_simp);refine tr 13 30 (iT qH u) D0 ?_;refine tr 14 31 (pT (some ⟨q,u*10,none⟩)) D0 ?_;refine tr 15 32 (pT (some ⟨q,u*10+2,none⟩)) D0 ?_;refine tr 16 33 (iT qH o.up) D0 ?_ (hy:=fun W h=>by obtain⟨z0,z1,z2,z3,z4,z5,z6,z7,z8,z9⟩:=OC.out W h;obtain⟨n0,n1,n2,n3,n4,n5,n6,n7,n8,n9⟩:=PC.out W h;go_simp);refine Ac (i:=17) kR rfl ?_;intro K hK;refine Ay qK 23 _ _ _ qK E1 _ _ qK qK (some 34) qK _ (F1 _ D0) ?_;rintro v w2 ⟨rfl,hb⟩;have H1:=Af D0 hb;refine hK _ _ (fun _=>H1) ?_;clear hK K hb;simp only[ap,qF];refine tr 18 35 (pT (some ⟨q,p*10,none⟩)) H1 ?_;refine tr 19 36 (pT (some ⟨q,p*10+3,none⟩)) H1 ?_;refine tr 20 37 (.agg n16) H1 ?_ (hy:=fun W h=>by obtain⟨z0,z1,z2,z3,z4,z5,z6,z7,z8,z9⟩:=OC.out W h;obtain⟨n0,n1,n2,n3,n4,n5,n6,n7,n8,n9⟩:=PC.out W h;go_simp);refine Ac (i:=21) kR rfl ?_;intro K hK;refine Ay qK 95 _ _ _ qK E2 _ _ qK qK (some 38) qK _ (F2 _ H1) ?_;rintro v w3 ⟨rfl,hb⟩;have H2:=Af H1 hb;refine hK _ _ (fun _=>H2) ?_;clear hK K hb;simp only[ap,qF];refine tr 22 39 (qU true) H2 ?_;refine tr 23 40 (qU true) H2 ?_;refine Ai kR ?_ _;have VL:=qC (H2);obtain⟨x0,x1⟩:=(BX _ VL).1.two;obtain⟨s0,s1,s2,s3,s4,s5,s6,s7,s8,s9⟩:=(BX _ VL).2.1.jE;obtain⟨r0,r1⟩:=(BX _ VL).2.2.1.two;have rf:=(BX _ VL).2.2.1.jC;go_wp2;have RB:=qC (BX.out _ VL).2.2.1;have KB:=qC (BX.out _ VL).2.2.2;refine bodyPost_ret (Al _ _ (w.heap.size+1+1) 6 _ _ _ _ Tryz.results46 ((RB.out.jB (i:=0) _).jB (i:=1) _) rfl rfl rfl) rfl ⟨lo,some ⟨q,0,none⟩,co,4,rfl,?_,?_,.inl ⟨rfl,MB,rfl⟩⟩
    ·exact(KB.out.set RB (.inl rfl) _).set (RB.out.jB (i:=0) _) (.inl rfl) _
    ·exact((LB _ VL).setCell qJ _).setCell qJ _
   |true=>
   go_wp2_with fail
   refine Am 24 (fun W=>qN V V W) kR ?_;refine tr 0 17 (iT qH u) D0 ?_;refine tr 1 18 (qU false) D0 ?_;refine tr 2 19 (qU false) D0 ?_;refine tr 3 20 (pT (w)) D0 ?_;refine tr 4 21 (qV g lt.length ca) D0 ?_ (hy:=fun W h=>by obtain⟨z0,z1⟩:=(BX W h).1.two;go_simp);refine tr 5 22 (iT qH t) D0 ?_;refine tr 6 23 (pT (some ⟨g,t*7,none⟩)) D0 ?_;refine tr 7 24 (.agg X) D0 ?_ (hy:=fun W h=>by obtain⟨z0,z1,z2,z3,z4,z5,z6⟩:=TC.out W h;go_simp);have n20:Nv (pT (some ⟨w,1,none⟩)):=⟨⟩;refine tr 8 25 n20 D0 ?_;have n18:Nv (qV q lo.length co):=⟨⟩;refine tr 9 26 n18 D0 ?_ (hy:=fun W h=>by obtain⟨z0,z1⟩:=(BX W h).1.two;go_simp);refine tr 10 27 (.agg n14) D0 ?_ (hy:=fun W h=>by obtain⟨z0,z1⟩:=(BX W h).1.two;go_simp);refine tr 11 28 n20 D0 ?_;refine tr 12 29 n18 D0 ?_ (hy:=fun W h=>by obtain⟨z0,z1⟩:=(BX W h).1.two;go_simp);refine tr 13 30 (iT qH u) D0 ?_;refine tr 14 31 (pT (some ⟨q,u*10,none⟩)) D0 ?_;refine tr 15 32 (pT (some ⟨q,u*10+2,none⟩)) D0 ?_;refine tr 16 33 (iT qH o.up) D0 ?_ (hy:=fun W h=>by obtain⟨z0,z1,z2,z3,z4,z5,z6,z7,z8,z9⟩:=OC.out W h;obtain⟨n0,n1,n2,n3,n4,n5,n6,n7,n8,n9⟩:=PC.out W h;go_simp);refine Ac (i:=17) kR rfl ?_;intro K hK;refine Ay qK 23 _ _ _ qK E1 _ _ qK qK (some 34) qK _ (F1 _ D0) ?_;rintro v w2 ⟨rfl,hb⟩;have H1:=Af D0 hb;refine hK _ _ (fun _=>H1) ?_;clear hK K hb;simp only[ap,qF];refine tr 18 35 (pT (some ⟨q,p*10,none⟩)) H1 ?_;refine tr 19 36 (pT (some ⟨q,p*10+3,none⟩)) H1 ?_;refine tr 20 37 (.agg n16) H1 ?_ (hy:=fun W h=>by obtain⟨z0,z1,z2,z3,z4,z5,z6,z7,z8,z9⟩:=OC.out W h;obtain⟨n0,n1,n2,n3,n4,n5,n6,n7,n8,n9⟩:=PC.out W h;go_simp);refine Ac (i:=21) kR rfl ?_;intro K hK;refine Ay qK 95 _ _ _ qK E2 _ _ qK qK (some 38) qK _ (F2 _ H1) ?_;rintro v w3 ⟨rfl,hb⟩;have H2:=Af H1 hb;refine hK _ _ (fun _=>H2) ?_;clear hK K hb;simp only[ap,qF];refine tr 22 39 (qU false) H2 ?_;refine tr 23 40 (qU false) H2 ?_;refine Ai kR ?_ _;have VL:=qC H2;clear H1 H2 OC PC TC F1 F2 E1 E2 D0 V1 V0;obtain⟨x0,x1⟩:=(BX _ VL).1.two;obtain⟨s0,s1,s2,s3,s4,s5,s6,s7,s8,s9⟩:=(BX _ VL).2.1.jE;obtain⟨r0,r1⟩:=(BX _ VL).2.2.1.two;have rf:=(BX _ VL).2.2.1.jC;go_wp2_with fail
   refine(aZ (BX _ VL).2.2.2 hl1 qQ hd OK HU).mono ?_;rintro e w4 ⟨ga,gc,rfl,og,hb4⟩;have V4:=qC (Af VL hb4);have gle:(Ci lo u).length<=271:=YD OK HU.out;have GA:Hid (∀W,qN w4 w4 W->AJ.at W ⟨ga,(Ci lo u).length,gc,AZ (Ci lo u)⟩):=qC (fun W hW=>(og.newL qQ).1.below hW);have E0:=qC (AW.made w4 w4 nr);have BE:=qC (Bg w4 (.cells #[] 59));obtain⟨GL,eGL⟩:∃l,l=Ci lo u:=⟨_,rfl⟩;rw[<-eGL]at gle GA og ⊢;have EG:=qC eGL;clear x0 x1 s0 s1 s2 s3 s4 s5 s6 s7 s8 s9 r0 r1 rf og hb4 eGL;obtain⟨x0,x1⟩:=(BX _ V4).1.two;obtain⟨s0,s1,s2,s3,s4,s5,s6,s7,s8,s9⟩:=(BX _ V4).2.1.jE;obtain⟨r0,r1⟩:=(BX _ V4).2.2.1.two;have rf:=(BX _ V4).2.2.1.jC;go_wp2;clear x0 x1 s0 s1 s2 s3 s4 s5 s6 s7 s8 s9 r0 r1 rf;go_loopw [11,12] (fun v i wr=>∃(j:Nat) (la:Option Addr) (lc:Nat),j<=lo.length/\i= iT qH j/\v= qV la (Fa GL lo j).length lc/\AW wr w4 (qV la (Fa GL lo j).length lc) (Fa GL lo j)/\qN w4 w4 wr) (fun _ i _=>lo.length-(intOf i).toNat)
   case atStart=>exact⟨0,_,0,Nat.zero_le _,rfl,rfl,E0,BE⟩
   case round=>
    clear E0 BE;obtain⟨j,la,lc,hj,rfl,rfl,ow,be⟩:=hrel;have OW:=qC ow;have BB:=qC be;have VW:=qC (V4.out.trans (be.mono V4.out.size));have ll:=Xl GL lo j;obtain⟨SL,eSL⟩:∃l,l=Fa GL lo j:=⟨_,rfl⟩;rw[<-eSL]at OW ll ⊢;have ES:=qC eSL;clear ow be eSL;obtain⟨x0,x1⟩:=(BX _ VW).1.two;obtain⟨s0,s1,s2,s3,s4,s5,s6,s7,s8,s9⟩:=(BX _ VW).2.1.jE;obtain⟨r0,r1⟩:=(BX _ VW).2.2.1.two;have rf:=(BX _ VW).2.2.1.jC;by_cases hlt:j<lo.length
    ·have i2:(j:Int)<(lo.length:Int):=qQ;have i3:(0:Int)<=(j:Int):=qQ;obtain⟨y,ey⟩:∃y,y=lo[j]:=⟨_,rfl⟩;have CJ:Hid (∀W,qN V V W->Di W q (j*10) y):=qC (fun W hW=>by rw[ey];exact((BX _ hW).2.2.2.jF hlt hd).1);have HLT:=qC hlt;have EY:=qC ey;have q0:wr.cell? ⟨q,j*10,none⟩=some (iT qH y.id):=(CJ _ VW).c0;have q1:wr.cell? ⟨q,j*10+1,none⟩=some (iT qH y.kind):=(CJ _ VW).c1;have q2:wr.cell? ⟨q,j*10+2,none⟩=some (iT qH y.up):=(CJ _ VW).c2;have q3:wr.cell? ⟨q,j*10+3,none⟩=some (iT qH y.b1):=(CJ _ VW).c3;have q4:wr.cell? ⟨q,j*10+4,none⟩=some (qV y.c1.a y.c1.n y.c1.k):=(CJ _ VW).c4;have q5:wr.cell? ⟨q,j*10+5,none⟩=some (.string y.data):=(CJ _ VW).c5;have q6:wr.cell? ⟨q,j*10+6,none⟩=some (qV y.jA.a y.jA.n y.jA.k):=(CJ _ VW).c6;have q7:wr.cell? ⟨q,j*10+7,none⟩=some (qV y.own.a y.own.n y.own.k):=(CJ _ VW).c7;have q8:wr.cell? ⟨q,j*10+8,none⟩=some (iT qH y.b2):=(CJ _ VW).c8;have q9:wr.cell? ⟨q,j*10+9,none⟩=some (qV y.c2.a y.c2.n y.c2.k):=(CJ _ VW).c9;have QB:Hid (q<V.heap.size):=qC ((BX _ (Below.refl V V)).2.2.2.jF hlt hd).2;obtain⟨hv,ehv⟩:∃b,b=hasB GL.length (AZ GL) y.id:=⟨_,rfl⟩;have CH:=df ⟨ga,GL.length,gc,AZ GL⟩ y.id wr (GA _ BB);have eh:hasB (AJ.n ⟨ga,GL.length,gc,AZ GL⟩) (AJ.h ⟨ga,GL.length,gc,AZ GL⟩) y.id=hv:=ehv.symm;rw[eh]at CH;have CH':=qC CH;have EH:=qC ehv;clear CH eh ehv ey;cases hv with
     |true=>
      go_wp2_with fail
      refine CH'.out.mono ?_;rintro e w5 ⟨rfl,e5⟩;obtain rfl:wr=w5:=e5.symm;go_wp2;go_roundw;case rel=>exact⟨j+1,la,lc,by have:=HLT.out;omega,by go_num,by rw[Oq HLT.out (by rw[<-EY.out];exact EH.out.symm),<-ES.out],by rw[Oq HLT.out (by rw[<-EY.out];exact EH.out.symm),<-ES.out];exact OW.out,BB⟩
      case measure=>have:=HLT.out;simp[intOf];omega
     |false=>
      go_wp2_with fail
      refine CH'.out.mono ?_;rintro e w5 ⟨rfl,e5⟩;obtain rfl:wr=w5:=e5.symm;have sV:w4.heap.size<=wr.heap.size:=BB.out.size;have qw:q<wr.heap.size:=Nat.lt_of_lt_of_le QB VW.out.size;have n12:No (.cells y 59):=⟨⟩;have QO:=qC (OW.out.below ((Below.refl _ wr).alloc nr n12));have QL:Hid (Bl (wr.alloc n12) (some ⟨wr,0,none⟩) 1 (Ax [y])):=qC (AW.one wr y);have sQ:w4.heap.size<=(wr.alloc n12).heap.size:=sO;have bQ:=qC (BB.out.alloc BB.out.size n12);go_wp2_with(at_builtin;refine Da _ rfl _ _ rfl w4 (qV la SL.length lc) SL rfl QO _ _ y rfl QL qQ sQ ?_;intro a7 c7 w7 o7 g7;have O7:=qC o7;have B7:Hid (qN w4 w4 w7):=qC (bQ.out.trans (below_grown g7 sQ (fun j e=>(World.ownsRow.lt QO j e).1)));clear o7 g7)
      have ER:Hid (Fa GL lo (j+1)=SL++[y]):=qC (by rw[WR HLT.out (by rw[<-EY.out];exact EH.out.symm),ES.out,<-EY.out]);go_roundw;case rel=>exact⟨j+1,a7,c7,by have:=HLT.out;omega,by go_num,by rw[ER.out];simp,by rw[ER.out,show(SL++[y]).length=SL.length+1 from by simp];exact O7.out,B7⟩
      case measure=>have:=HLT.out;simp[intOf];omega
    ·obtain rfl:j=lo.length:=by omega
     have i2:¬(lo.length:Int)<(lo.length:Int):=qQ;have AB:=qC (BX.out _ VW).1;have RB:=qC (BX.out _ VW).2.2.1;have xf:=AB.out.jC;have KB:=qC (BX.out _ VW).2.2.2;have LD:=qC (LB.out _ VW);have B4:Hid (B<=w4.heap.size):=qC (qj hB (LW _ V4).size);go_wp2;have RA:Hid (Ag (wr.setCell ⟨w,1,none⟩ (qV la SL.length lc)) (w.heap.size+1+1) (.cells #[qV none 0 0,qV none 0 0] 27)):=qC (RB.out.other qQ _);refine bodyPost_ret (Al _ _ (w.heap.size+1+1) 6 _ _ _ _ Tryz.results46 ((RA.out.jB (i:=0) _).jB (i:=1) _) rfl rfl rfl) rfl ⟨SL,la,lc,0,rfl,?_,?_,.inr ⟨rfl,MB,u,HU,U0,by rw[ES.out,EG.out]⟩⟩
     ·have ms:∀x∈SL,x∈lo:=fun x hx=>by
       rw[ES.out]at hx;exact List.mem_of_mem_take (List.mem_filter.1 hx).1
      have k1:Bz wr B (qV g lt.length ca) (qV la SL.length lc) lt SL:=⟨KB.out.t,OW.out.base B4,KB.out.tn,fun x hx=>KB.out.on x (ms x hx),KB.out.tc,fun x hx=>KB.out.oc x (ms x hx)⟩;exact((k1.set AB (.inl rfl) _).set RA (.inl rfl) _).set (RA.out.jB (i:=0) _) (.inl rfl) _
     ·exact((LD.out.setCell qJ _).setCell qJ _).setCell qJ _
end Go.Proofs.YtdaccbddcjlkpaaGreatDoor
