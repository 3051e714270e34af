import Derived.Test.YtbacmamplkdgaaaGreatDoorZ33b
import Derived.Test.YtbacmamplkdgaaaGreatDoorZ3b
import Derived.Test.YtbacmamplkdgaaaGreatDoorZ32b
import Derived.Lib.Join
import Derived.Test.YtbacmamplkdgaaaGreatDoorZ0b
import Derived.RangeFuncNested
import Derived.RangeFuncBound
import Derived.RangeFuncCalls
import Derived.RangeFuncLeaves
import Derived.OrdersIn
import Derived.OrdersHeld
set_option maxRecDepth 100000
set_option maxHeartbeats 4000000
namespace Go.Proofs.YtbacmamplkdgaaaGreatDoor
open Go
theorem decL_len_leT(k:Nat):∀n,n<10^(k+1)→(decL n).length≤k+1:=by
 induction k with
 |zero=>intro n h;rw[decL_small (by simpa using h)];simp
 |succ k ih=>
  intro n h;by_cases hs:n<10
  ·rw[decL_small hs];simp
  ·rw[decL_big hs,List.length_append];have:=ih (n/10) (by rw[Nat.pow_succ]at h;omega);simp;omega
def dc(x:Int):List UInt8:=decL x.toNat
def lb(b:Int)(c:CatL):List UInt8:=txt b (catsTo c.f c.g c.n)
def bl(ns:List Int):List UInt8:=(ns.map fun x=>32::dc x).flatten
def numsT(c:IntL):List Int:=(List.range c.n).map c.h
theorem bl_snoc(ns:List Int)(x:Int):bl (ns++[x])=bl ns++32::dc x:=by simp[bl]
def small(x:Int):Prop:=0≤x∧x≤9999
theorem dc_len{x:Int}(h:small x):(dc x).length≤4:=decL_len_leT 3 _ (by have:=h.2;have:=h.1;show x.toNat<10000;omega)
theorem bl_len{ns:List Int}(h:∀x∈ns,small x):(bl ns).length≤5*ns.length:=by
 induction ns with
 |nil=>simp[bl]
 |cons x ns ih=>
  have h1:=ih (fun y hy=>h y (List.mem_cons_of_mem _ hy));have h2:=dc_len (h x (List.mem_cons_self ..));have e:bl (x::ns)=(32::dc x)++bl ns:=by simp[bl]
  rw[e,List.length_append,List.length_cons,List.length_cons];omega
theorem lab_small{b:Int}{c:CatL}(h:labOk b c.n c.f c.g=true):small b∧c.n≤12∧∀i,i<c.n→small (c.f i)∧small (c.g i):=by
 obtain⟨h1,h2,h3⟩:=labOk_out h;have h1':=inB_iff.1 h1;refine⟨⟨h1'.1,by have:=h1'.2;omega⟩,h2,fun i hi=>?_⟩;have:=h3 i hi;simp only[catOk,Bool.and_eq_true]at this;have f1:=inB_iff.1 this.1.1.1;have g1:=inB_iff.1 this.1.1.2;exact⟨⟨by omega,f1.2⟩,⟨g1.1,by omega⟩⟩
theorem lb_len{b:Int}{c:CatL}(h:labOk b c.n c.f c.g=true):(lb b c).length≤200:=by
 obtain⟨h1,h2,h3⟩:=lab_small h;have key:∀k,k≤c.n→(txt b (catsTo c.f c.g k)).length≤4+k*10:=fun k=>by
  induction k with
  |zero=>intro _;simp[txt,catsTo];exact dc_len h1
  |succ k ih=>
   intro hk;have:=ih (by omega);have d1:=dc_len (h3 k (by omega)).1;have d2:=dc_len (h3 k (by omega)).2;unfold dc at d1 d2;rw[catsTo_succ,txt_snoc,List.length_append];simp only[catText,List.length_cons,List.length_append];omega
 have:=key c.n (Nat.le_refl _);unfold lb;omega
theorem own_small{c:IntL}(h:ownOk c.n c.h=true):c.n≤10∧∀x∈numsT c,small x:=by
 obtain⟨h1,h2⟩:=ownOk_out h;refine⟨h1,fun x hx=>?_⟩;unfold numsT at hx;obtain⟨i,hi,rfl⟩:=List.mem_map.1 hx;have:=h2 i (List.mem_range.1 hi);simp only[ownAt,Bool.and_eq_true]at this;have f1:=inB_iff.1 this.1;exact⟨by omega,f1.2⟩
theorem numsT_len(c:IntL):(numsT c).length=c.n:=by simp[numsT]
def thrW:List UInt8:=[116,104,114,101,97,100]
def objW:List UInt8:=[111,98,106,101,99,116]
def datW:List UInt8:=[100,97,116,97]
def itmW:List UInt8:=[105,116,101,109]
def lineL(ws:List (List UInt8)):List UInt8:=Lib.join ws [32]++[10]
def thrX(t:ThrV):List UInt8:=lineL ([thrW,dc t.id,lb t.b1 t.c1,lb t.b2 t.c2,dc t.made]++(numsT t.own).map dc)
def objX(o:ObjV)(ks:List Int):List UInt8:=lineL ([objW,dc o.id,dc o.kind,dc o.up,lb o.b1 o.c1,lb o.b2 o.c2]++(numsT o.own).map dc++ks.map dc)
def datX(d:ByteArray):List UInt8:=if d.toList.isEmpty=true then[]else lineL [datW,d.data.toList]
def itmX(f:Nat→ByteArray)(j:Nat):List UInt8:=((List.range j).map fun i=>lineL [itmW,(f i).data.toList]).flatten
theorem itmX_succ(f:Nat→ByteArray)(j:Nat):itmX f (j+1)=itmX f j++lineL [itmW,(f j).data.toList]:=by simp[itmX,List.range_succ]
def objT(o:ObjV)(ks:List Int):List UInt8:=objX o ks++datX o.data++itmX o.items.f o.items.n
theorem line_thr(t:ThrV):thrX t=thrW++[32]++dc t.id++[32]++lb t.b1 t.c1++[32]++lb t.b2 t.c2++[32]++dc t.made++bl (numsT t.own)++[10]:=by
 unfold thrX lineL;rw[List.cons_append,Lib.join_cons];simp[Lib.joinTail,bl,Function.comp_def]
theorem line_obj(o:ObjV)(ks:List Int):objX o ks=objW++[32]++dc o.id++[32]++dc o.kind++[32]++dc o.up++[32]++lb o.b1 o.c1++[32]++lb o.b2 o.c2++bl (numsT o.own)++bl ks++[10]:=by
 unfold objX lineL;rw[List.cons_append,List.cons_append,Lib.join_cons];simp[Lib.joinTail,bl,Function.comp_def]
theorem line_two(a b:List UInt8):lineL [a,b]=a++[32]++b++[10]:=by
 unfold lineL;rw[Lib.join_cons];simp[Lib.joinTail]
theorem thr_small{t:ThrV}(h:thrOkV t=true):small t.id∧small t.made∧labOk t.b1 t.c1.n t.c1.f t.c1.g=true∧labOk t.b2 t.c2.n t.c2.f t.c2.g=true∧ownOk t.own.n t.own.h=true:=by
 simp only[thrOkV,thrOk,Bool.and_eq_true]at h;have h1:=inB_iff.1 h.1.1.1.1;have h5:=inB_iff.1 h.2;exact⟨⟨by omega,by omega⟩,⟨h5.1,by omega⟩,h.1.1.1.2,h.1.1.2,h.1.2⟩
theorem thrX_len{t:ThrV}(h:thrOkV t=true):(thrX t).length≤1000:=by
 obtain⟨h1,h2,h3,h4,h5⟩:=thr_small h;have d1:=dc_len h1;have d2:=dc_len h2;have d3:=lb_len h3;have d4:=lb_len h4;have d5:=bl_len (own_small h5).2;have d6:=(own_small h5).1;rw[numsT_len]at d5;rw[line_thr];simp only[List.length_append,thrW,List.length_cons,List.length_nil];omega
theorem obj_parts{o:ObjV}(h:objOk o=true):labOk o.b1 o.c1.n o.c1.f o.c1.g=true∧labOk o.b2 o.c2.n o.c2.f o.c2.g=true∧ownOk o.own.n o.own.h=true∧o.data.size≤40∧o.items.n≤8∧(∀i,i<o.items.n→(o.items.f i).size≤40)∧small o.kind:=by
 simp only[objOk,Bool.and_eq_true]at h;obtain⟨⟨⟨⟨⟨h1,h2⟩,h3⟩,h4⟩,h5⟩,h6⟩:=h;obtain⟨i1,i2⟩:=itemsB_out h5;have p:∀{s:ByteArray},plainB s 40=true→s.size≤40:=fun hs=>by
  simp only[plainB,Bool.and_eq_true,decide_eq_true_eq]at hs;omega
 refine⟨h1,h2,h3,p h4,i1,fun i hi=>p (i2 i hi),?_⟩;unfold kindB at h6;unfold small;split at h6
 ·omega
 ·split at h6
  ·omega
  ·split at h6
   ·omega
   ·split at h6
    ·omega
    ·cases h6
theorem objX_len{o:ObjV}{ks:List Int}(h:objOk o=true)(h1:small o.id)(h2:small o.up)(hk:∀x∈ks,small x)(hn:ks.length≤271):(objX o ks).length≤3000:=by
 obtain⟨p1,p2,p3,p4,p5,p6,p7⟩:=obj_parts h;have d1:=dc_len h1;have d2:=dc_len h2;have d3:=dc_len p7;have d4:=lb_len p1;have d5:=lb_len p2;have d6:=bl_len (own_small p3).2;have d7:=(own_small p3).1;have d8:=bl_len hk;rw[numsT_len]at d6;rw[line_obj];simp only[List.length_append,objW,List.length_cons,List.length_nil];omega
theorem datX_len{d:ByteArray}(h:d.size≤40):(datX d).length≤50:=by
 unfold datX;split
 ·simp
 ·rw[line_two];have:d.data.toList.length=d.size:=Array.length_toList;simp only[List.length_append,datW,List.length_cons,List.length_nil];omega
theorem itmX_len{f:Nat→ByteArray}{n:Nat}(h:∀i,i<n→(f i).size≤40):(itmX f n).length≤50*n:=by
 induction n with
 |zero=>simp[itmX]
 |succ n ih=>
  have h1:=ih (fun i hi=>h i (by omega));have h2:=h n (by omega);have:(f n).data.toList.length=(f n).size:=Array.length_toList;rw[itmX_succ,List.length_append,line_two];simp only[List.length_append,itmW,List.length_cons,List.length_nil];omega
theorem ker_idT{k:KerV}(h:kerOk k=true){i:Nat}(hi:i<k.on):small (k.O i).id:=by
 have hp:=h;simp only[kerOk,Bool.and_eq_true]at hp;obtain⟨⟨⟨⟨ht,ho⟩,hn⟩,_⟩,_⟩:=hp;by_cases h0:i=0
 ·subst h0;rw[(objsOk_root ho).1];exact⟨by omega,by omega⟩
 ·have ha:=all_out hn (i-1) (by omega);have e:i-1+1=i:=by omega
  simp only[e]at ha;have hpos:=objsOk_pos ho i hi;cases hf:findI (fun j=>(k.T j).id) k.tn ((k.O i).id/1000)with
  |none=>rw[numAt_none ht hf]at ha;cases ha
  |some t=>
   rw[numAt_some ht hf]at ha;obtain⟨t1,t2⟩:=findI_some hf;have t3:=(thrsOk_out ht).2.2 t t1;simp only[thrAt,Bool.and_eq_true]at t3;obtain⟨s1,s2,_⟩:=thr_small t3.1;have a1:=inB_iff.1 ha;have t2':(k.T t).id=(k.O i).id/1000:=t2;have hid:(k.T t).id≤9:=by
    have:=t3.1;simp only[thrOkV,thrOk,Bool.and_eq_true]at this;exact(inB_iff.1 this.1.1.1.1).2
   exact⟨by omega,by omega⟩
theorem ker_up{k:KerV}(h:kerOk k=true){i:Nat}(hi:i<k.on):small (k.O i).up:=by
 by_cases h0:i=0
 ·subst h0;rw[(objsOk_root (kerOk_objs h)).2.2];exact⟨by omega,by omega⟩
 ·obtain⟨u,hu⟩:=ups_box h hi h0;obtain⟨u1,u2⟩:=findI_some hu;have u2':(k.O u).id=(k.O i).up:=u2;rw[←u2'];exact ker_idT h u1
theorem ker_thr{k:KerV}(h:kerOk k=true){i:Nat}(hi:i<k.tn):thrOkV (k.T i)=true:=by
 simp only[kerOk,Bool.and_eq_true]at h;have:=(thrsOk_out h.1.1.1.1).2.2 i hi;simp only[thrAt,Bool.and_eq_true]at this;exact this.1
theorem ker_obj{k:KerV}(h:kerOk k=true){i:Nat}(hi:i<k.on):objOk (k.O i)=true:=by
 have:=(objsOk_out (kerOk_objs h)).2.2.1 i hi;simp only[objAt,Bool.and_eq_true]at this;exact this.1
theorem ker_lens{k:KerV}(h:kerOk k=true):1≤k.tn∧k.tn≤9∧k.on≤271:=by
 have h2:=(objsOk_out (kerOk_objs h)).2.1;simp only[kerOk,Bool.and_eq_true]at h;have h1:=thrsOk_out h.1.1.1.1;exact⟨h1.1,h1.2.1,h2⟩
theorem objT_len{o:ObjV}{ks:List Int}(h:objOk o=true)(h1:small o.id)(h2:small o.up)(hk:∀x∈ks,small x)(hn:ks.length≤271):(objT o ks).length≤4000:=by
 obtain⟨_,_,_,p4,p5,p6,_⟩:=obj_parts h;have d1:=objX_len h h1 h2 hk hn;have d2:=datX_len p4;have d3:=itmX_len p6;unfold objT;simp only[List.length_append];omega
open Go.RowKit Go.Deep Go.Maps Go.BigFrame Go.Shelf
theorem mk_size(a:Array UInt8):(ByteArray.mk a).size=a.size:=rfl
theorem ret_strT{a b:ByteArray}(h:a=b):Ending.returned (.string a)= .returned (.string b):=by rw[h]
theorem dec_s(x:Int)(w:World)(h:small x):Calls Tryz.prog 42 #[.int .i64 x] w fun e w'=>e= .returned (.string ⟨(dc x).toArray⟩)∧Below w.heap.size w w':=
 l1DecI_any x w h.1 (by have:=h.2;omega)
theorem txt_s(b:Int)(c:CatL)(w:World)(hc:c.at w)(h:labOk b c.n c.f c.g=true):Calls Tryz.prog 40 #[.agg #[.int .i64 b,c.val]] w fun e w'=>e= .returned (.string ⟨(lb b c).toArray⟩)∧Below w.heap.size w w':=by
 obtain⟨h1,h2,h3⟩:=lab_small h;exact l1Text_any b c.a c.n c.k c.f c.g w h2 hc.2 ⟨h1.1,by have:=h1.2;omega⟩ (fun i hi=>⟨(h3 i hi).1.1,by have:=(h3 i hi).1.2;omega⟩) (fun i hi=>⟨(h3 i hi).2.1,by have:=(h3 i hi).2.2;omega⟩)
theorem l5List_any(c:IntL)(w:World)(hc:c.at w)(hs:∀i,i<c.n→small (c.h i))(hn:c.n≤1000):
 Calls Tryz.prog 43 #[c.val] w fun e w'=>e= .returned (.string ⟨(bl (numsT c)).toArray⟩)∧Below w.heap.size w w':=by
 obtain⟨a,n,cap,h⟩:=c;simp only at hs hn;have HC:=hid hc.2;simp only at HC;unfold IntL.val numsT;simp only;have HS:=hid hs;clear hc hs;go_enter Tryz.func43,Tryz.ntmps43
 go_wp2;go_loopw [3,4] (fun s i wr=>∃q:Nat,q≤n∧i= .int .i64 q∧s= .string ⟨(bl ((List.range q).map h)).toArray⟩∧Below w.heap.size w wr) (fun _ i _=>n-(intOf i).toNat)
 case atStart=>exact⟨0,Nat.zero_le _,rfl,rfl,Below.refl _ _⟩
 case round=>
  obtain⟨q,hq,rfl,rfl,hB⟩:=hrel;by_cases hlt:q<n
  ·obtain⟨b,off,rfl,hbl,hcc⟩:=HC.out (by omega);have c1:=(hB.cell (p:=⟨b,off+q,none⟩) hbl).trans (hcc q hlt);have i1:(q:Int)<(n:Int):=(by omega);have D:=hid (dec_s (h q) wr (HS.out q hlt));have EX:Hid ((⟨(bl ((List.range (q+1)).map h)).toArray⟩:ByteArray)=⟨(bl ((List.range q).map h)).toArray⟩++ByteArray.mk #[32]++⟨(dc (h q)).toArray⟩):=hid (by
    rw[List.range_succ,List.map_append,List.map_cons,List.map_nil,bl_snoc];have e1:ByteArray.mk #[32]=⟨[32].toArray⟩:=rfl;rw[e1,bytes_app,bytes_app];simp)
   have l1:=bl_len (ns:=(List.range q).map h) (fun x hx=>by obtain⟨i,hi,rfl⟩:=List.mem_map.1 hx;exact HS.out i (by have:=List.mem_range.1 hi;omega));have l2:=dc_len (HS.out q hlt);have s1:(⟨(bl ((List.range q).map h)).toArray⟩:ByteArray).size≤100000:=(by rw[mk_size,List.size_toArray];simp at l1;omega);have s2:(⟨(dc (h q)).toArray⟩:ByteArray).size≤4:=(by rw[mk_size,List.size_toArray];exact l2);clear hcc l1 l2;generalize (⟨(bl ((List.range q).map h)).toArray⟩:ByteArray)=S at *;generalize (⟨(dc (h q)).toArray⟩:ByteArray)=D1 at *;have lt0:(ByteArray.mk #[32]).size=1:=rfl;have r1:¬9223372036854775807<S.size+(ByteArray.mk #[32]).size:=(by omega);have r2:¬9223372036854775807<(S++ByteArray.mk #[32]).size+D1.size:=(by rw[ByteArray.size_append];omega);clear lt0;go_wp2_with fail
   refine D.out.mono ?_;rintro e w2 ⟨rfl,b2⟩;have B2:=then_ hB b2;clear b2 D c1;go_wp2;exact⟨⟨q+1,by omega,by go_num,by rw[EX.out],B2⟩,by simp[intOf];omega⟩
  ·have i1:¬(q:Int)<(n:Int):=(by omega);obtain rfl:q=n:=by omega
   go_wp2;go_ret;exact⟨rfl,hB⟩
structure KeepsAll(W W':World):Prop where
 size:W.heap.size≤W'.heap.size
 same:∀(k:Nat) (o:Obj),W.heap[k]? =some o→(o.isCells=true∨o.isWalk=true)→W'.heap[k]? =some o
theorem KeepsAll.refl(W:World):KeepsAll W W:=⟨Nat.le_refl _,fun _ _ h _=>h⟩
theorem KeepsAll.trans{A B C:World}(h:KeepsAll A B)(k:KeepsAll B C):KeepsAll A C:=
 ⟨Nat.le_trans h.size k.size,fun i o hi ho=>k.same i o (h.same i o hi ho) ho⟩
theorem KeepsAll.book{w:World}(W:World)(l:Nat)(o o':Obj)(_:w.heap.size≤l)(h:W.heap[l]? =some o)(hc:o.isCells=false)(hw:o.isWalk=false):KeepsAll W (W.putObj l o'):=
 ⟨by simp,fun k o'' hk ho=>by
   by_cases e:k=l
   ·subst e;rw[h]at hk;cases hk;rw[hc,hw]at ho;simp at ho
   ·exact(World.putObj_heap_other e).trans hk⟩
theorem KeepsAll.of_below{W W':World}(h:Below W.heap.size W W'):KeepsAll W W':=
 ⟨h.size,fun k _ hk _=>(h.block k (Array.getElem?_eq_some_iff.1 hk).1).trans hk⟩
theorem KeepsAll.cell{W W':World}(h:KeepsAll W W'){a:Addr}{v:Value}(hv:W.cell? a=some v):W'.cell? a=some v:=by
 have hv':=hv;unfold World.cell? at hv;cases ho:W.heap[a.block]? with
 |none=>simp[ho]at hv
 |some o=>
  have hc:o.isCells=true:=by cases o<;>simp_all[Obj.isCells]
  have:=h.same _ _ ho (.inl hc);exact(World.cell?_of_block (this.trans ho.symm)).trans hv'
theorem KeepsAll.map{W W':World}(h:KeepsAll W W'){b n:Nat}{m:Int→Option Int}(hm:MapIs W b n m):MapIs W' b n m:=by
 have hm':=hm;obtain⟨D,⟨es,clock,hb,F,hs,hD⟩,r⟩:=hm;exact hm'.of_block ((h.same b _ hb (.inr rfl)).trans hb.symm)
theorem grown_of_below{W W':World}(h:Below W.heap.size W W'):W.grownBy W' none:=⟨h.os,h.tape,h.output,h.size,fun k hk _=>h.block k hk⟩
section
variable {F:Fence}{n:Nat}{P:Program}{ops:Array Oper}{Q:Exit→Act→World→Prop}{md:Region.Mode}{S:World→Prop}{X:List Nat}
def YieldsF(P:Program)(ops:Array Oper)(S:World→Prop)(o:Oper)(v:Value)(a:Act):Prop:=YieldsIf P ops S o v a∧∀w,o.about P w a.eval=none
theorem YieldsF.wpOpIn{i:Nat}{o:Oper}{v:Value}{a:Act}(hro:F.round=none)(hi:ops[i]? =some o)(hy:YieldsF P ops S o v a)
 {K:Act→World→Prop}{w:World}(hS:S w)(h:K (a.put o.dst v) w):wpOpIn F n P ops Q i K a w:=by
 unfold Go.wpOpIn;simp only[hi];have hab:∀f,o.about P w a.eval=some f→F.fn f:=fun f hf=>by rw[hy.2 w]at hf;cases hf
 rcases hy.1 with⟨hw,hv⟩|⟨hw,rfl⟩
 ·simp only[hw,if_true,Oper.wpIn,hro,Oper.semAt_none,hv w hS,Oper.uponIn];exact⟨hab,h⟩
 ·simp only[hw,Bool.false_eq_true,if_false];exact⟨hab,h⟩
theorem YieldsF.of_same{o:Oper}{v:Value}{a a':Act}(hy:YieldsF P ops S o v a)(he:execOp a'.eval o=execOp a.eval o)
 (hw:Region.wanted o (yielded ops a'.tmps)=Region.wanted o (yielded ops a.tmps))(hb:∀w,o.about P w a'.eval=o.about P w a.eval):YieldsF P ops S o v a':=
 ⟨hy.1.of_same he hw,fun w=>by rw[hb w];exact hy.2 w⟩
theorem wpOpIn_putF{j:Nat}{oi oj:Oper}{v:Value}(hro:F.round=none)(hj:ops[j]? =some oj)(hap:oi.apart ops oj=true)
 (hsi:∀cs b,oi.op≠ .select cs b)(hsj:∀cs b,oj.op≠ .select cs b)
 (hQ:∀c a w,Q (.panic c) (a.put oi.dst v) w→Q (.panic c) a w){K:Act→World→Prop}{a:Act}{w:World}
 (hy:YieldsF P ops S oi v a)(h:wpOpIn F n P ops Q j K (a.put oi.dst v) w):
 wpOpIn F n P ops Q j (fun a' w'=>YieldsF P ops S oi v a'∧K (a'.put oi.dst v) w') a w:=by
 obtain⟨h1,h2,h3⟩:=Oper.apart_spec hap;have keep:∀(a:Act),YieldsF P ops S oi v a→∀u,YieldsF P ops S oi v (a.put oj.dst u):=fun a hy u=>
  hy.of_same (execOp_put oi hsi a oj.dst u h3) (wanted_put oi a oj.dst u h3) (fun w=>about_put oi w a oj.dst u h3)
 have keepD:∀d,YieldsF P ops S oi v {a with defers:=d::a.defers}:=fun d=>hy.of_same rfl rfl (fun _=>rfl);unfold wpOpIn at *;simp only[hj]at *;rw[wanted_put oj a oi.dst v h1,about_put oj w a oi.dst v h1]at h;split
 ·rename_i hw;simp only[hw,if_true]at h;unfold Oper.wpIn at *;rw[about_put oj w a oi.dst v h1]at h;refine⟨h.1,?_⟩;have h:=h.2;rw[hro,Oper.semAt_none,execOp_put oj hsj a oi.dst v h1]at h;rw[hro,Oper.semAt_none];generalize (execOp a.eval oj).run P w=r at *;cases r with
  |ok x w'=>
   cases x<;>simp only[Oper.uponIn]at h ⊢;case value u=>exact⟨keep a hy u,by rw[←Act.put_comm a v u h2];exact h⟩
   case skip=>exact⟨keep a hy _,by rw[←Act.put_comm a v undef h2];exact h⟩
   case defer d=>
    refine⟨keep _ (keepD d) _,?_⟩;rw[←Act.put_comm _ v undef h2,←Act.put_defers];exact h
   case enter f args=>
    refine⟨h.1,CallsIn.mono h.2 fun e w'' he=>?_⟩;cases e with
    |returned u=>exact⟨keep a hy u,by rw[←Act.put_comm a v u h2];exact he⟩
    |panicked c=>exact hQ _ _ _ he
    |outgrown=>exact he
   case row row args=>exact⟨h.1,RowsIn.mono h.2 fun u w'' he=>⟨keep a hy u,by rw[←Act.put_comm a v u h2];exact he⟩⟩
   case round l f tmps assign body=>
    refine⟨h.1,RoundIn.mono h.2 fun e w'' he=>?_⟩;cases e with
    |returned u=>exact⟨keep a hy u,by rw[←Act.put_comm a v u h2];exact he⟩
    |panicked c=>exact hQ _ _ _ he
    |outgrown=>exact he
  |halt x w'=>
   cases x<;>simp only[Oper.uponIn]at h ⊢;case panic u=>exact hQ _ _ _ h
 ·rename_i hw;simp only[hw]at h;exact⟨h.1,keep a hy _,by rw[←Act.put_comm a v undef h2];exact h.2⟩
def AnyF(F:Fence)(n:Nat)(P:Program)(md:Region.Mode)(ops:Array Oper)(Q:Exit→Act→World→Prop)(S:World→Prop)(X:List Nat)(f:Nat)(L:Array Bool)(a:Act)(w:World):Prop:=
 match f with
 |0=>Region.ready md ops L=[]∧Q .normal a w
 |f+1=>(Region.ready md ops L=[]→Q .normal a w)∧
  ∀i∈Region.ready md ops L,wpOpIn F n P ops Q i (fun a' w'=>(X.contains i=false→S w')∧AnyF F n P md ops Q S X f (L.setIfInBounds i true) a' w') a w
theorem AnyF.any{f:Nat}:∀{L:Array Bool}{a:Act}{w:World},AnyF F n P md ops Q S X f L a w→wpAnyIn F n P md ops Q f L a w:=by
 induction f with
 |zero=>intro L a w h;exact h
 |succ f ih=>intro L a w h;exact⟨h.1,fun i hi=>wpOpIn_mono (fun _ _ k=>ih k.2) (h.2 i hi)⟩
def ClosedL(md:Region.Mode)(ops:Array Oper)(L:Array Bool):Prop:=
 ∀k o,ops[k]? =some o→L.getD k false=true→∀e∈o.after,Region.binds md e=true→L.getD e.on false=true
def leads(md:Region.Mode)(ops:Array Oper):Nat→Nat→Nat→Bool
 |0,_,_=>false
 |f+1,x,i=>match ops[x]? with
  |some o=>o.after.any (fun e=>Region.binds md e&&(e.on==i||leads md ops f e.on i))
  |none=>false
theorem leads_listed{L:Array Bool}(hc:ClosedL md ops L){i:Nat}(f:Nat):∀x,leads md ops f x i=true→(∀o,ops[x]? =some o→∀e∈o.after,Region.binds md e=true→L.getD e.on false=true)→L.getD i false=true:=by
 induction f with
 |zero=>intro x h _;simp[leads]at h
 |succ f ih=>
  intro x h hx;unfold leads at h;cases ho:ops[x]? with
  |none=>rw[ho]at h;simp at h
  |some o=>
   rw[ho]at h;dsimp only at h;obtain⟨e,he,hb⟩:=Array.any_eq_true'.1 h;simp only[Bool.and_eq_true,Bool.or_eq_true,beq_iff_eq]at hb;have hl:=hx o ho e he hb.1;rcases hb.2 with q|q
   ·rw[←q];exact hl
   ·exact ih e.on q (fun o' ho' e' he' hb'=>hc e.on o' ho' hl e' he' hb')
theorem ClosedL.set{L:Array Bool}(hc:ClosedL md ops L){j:Nat}(hj:j∈Region.ready md ops L):ClosedL md ops (L.setIfInBounds j true):=by
 intro k o ho hk e he hb;obtain⟨hun,oj,hoj,hall⟩:=mem_ready.1 hj;by_cases q:j=k
 ·subst q;rw[hoj]at ho;cases ho;exact getD_set_true (hall e he hb)
 ·rw[getD_set_ne false q]at hk;exact getD_set_true (hc k o ho hk e he hb)
theorem ready_unlistedF{i:Nat}{L:Array Bool}(h:i∈Region.ready md ops L):L.getD i false=false:=by
 have h0:=(mem_ready.1 h).1;by_cases hl:i<L.size
 ·simp[hl]at h0 ⊢;exact h0
 ·simp[Array.getElem?_eq_none (Nat.le_of_not_lt hl)]
theorem AnyF.takes{i:Nat}{oi:Oper}{v:Value}(hro:F.round=none)(hi:ops[i]? =some oi)(hs:Region.noSelect ops=true)
 (hX:∀x,X.contains x=true→leads md ops ops.size x i=true)
 (hQ:∀c a w,Q (.panic c) (a.put oi.dst v) w→Q (.panic c) a w)(f:Nat):∀{L:Array Bool}{a:Act}{w:World},ClosedL md ops L→
 (∀j oj,ops[j]? =some oj→j≠i→L.getD j true=false→(∀e∈oj.after,Region.binds md e=true→e.on≠i)→oi.apart ops oj=true)→
 i∈Region.ready md ops L→YieldsF P ops S oi v a→S w→AnyF F n P md ops Q S X f (L.setIfInBounds i true) (a.put oi.dst v) w→AnyF F n P md ops Q S X (f+1) L a w:=by
 have sel:=Region.noSelect_spec hs;induction f with
 |zero=>
  intro L a w _ _ hr hy hS H;refine⟨fun e=>absurd hr (by rw[e];simp),fun j hj=>?_⟩;by_cases e:j=i
  ·subst e;exact hy.wpOpIn hro hi hS ⟨fun _=>hS,H⟩
  ·have:=ready_mono hj e;rw[H.1]at this;simp at this
 |succ f ih=>
  intro L a w hcl hfree hr hy hS H;refine⟨fun e=>absurd hr (by rw[e];simp),fun j hj=>?_⟩;by_cases e:j=i
  ·subst e;exact hy.wpOpIn hro hi hS ⟨fun _=>hS,H⟩
  ·obtain⟨hun,oj,hoj,hall⟩:=mem_ready.1 hj;have un:=ready_unlistedF hr;have apart:∀x∈oj.after,Region.binds md x=true→x.on≠i:=fun x hx hb hq=>by
    have:=hall x hx hb;rw[hq,un]at this;cases this
   have hjX:X.contains j=false:=by
    cases hc:X.contains j
    ·rfl
    ·have:=leads_listed hcl ops.size j (hX j hc) (fun o ho e he hb=>by rw[hoj]at ho;cases ho;exact hall e he hb);rw[un]at this;cases this
   refine wpOpIn_mono (fun a' w' k=>⟨fun _=>k.2.1 hjX,?_⟩) (wpOpIn_putF hro hoj (hfree j oj hoj e hun apart) (fun cs b=>sel i oi cs b hi) (fun cs b=>sel j oj cs b hoj) hQ hy (H.2 j (ready_mono hj e)));refine ih (hcl.set hj) (fun k ok hk hki hkl hkn=>hfree k ok hk hki ?_ hkn) (ready_mono hr (Ne.symm e)) k.1 (k.2.1 hjX) ?_
   ·by_cases q:j=k
    ·subst q;exact hun
    ·rw[getD_set_ne true q]at hkl;exact hkl
   ·rw[Array.setIfInBounds_comm _ _ e];exact k.2.2
def closedB(md:Region.Mode)(ops:Array Oper)(L:Array Bool):Bool:=
 (List.range ops.size).all fun k=> !(L.getD k false)||match ops[k]? with
   |some o=>o.after.all (fun e=> !(Region.binds md e)||L.getD e.on false)
   |none=>true
theorem closedB_out{L:Array Bool}(h:closedB md ops L=true):ClosedL md ops L:=by
 intro k o ho hk e he hb;unfold closedB at h;rw[List.all_eq_true]at h;have:=h k (List.mem_range.2 (Array.getElem?_eq_some_iff.1 ho).1);rw[hk,ho]at this;simp only[Bool.not_true,Bool.false_or]at this;have:=(Array.all_eq_true'.1 this) e he;rw[hb]at this;simpa using this
theorem AnyF.takeD{i d:Nat}{oi:Oper}(v:Value){f:Nat}{L:Array Bool}{a:Act}{w:World}(hro:F.round=none)(hi:ops[i]? =some oi)(hd:oi.dst=some d)(hs:Region.noSelect ops=true)(hf:Region.free md ops L i=true)
 (hr:(Region.ready md ops L).contains i=true)(hcl:closedB md ops L=true)(hX:X.all (fun x=>leads md ops ops.size x i)=true)(hQ:∀c a w,Q (.panic c) (a.put (some d) v) w→Q (.panic c) a w)(hS:S w)
 (hy:YieldsIf P ops S oi v a)(hab:∀w,oi.about P w a.eval=none)(h:AnyF F n P md ops Q S X f (L.setIfInBounds i true) (a.put (some d) v) w):AnyF F n P md ops Q S X (f+1) L a w:=
 AnyF.takes (v:=v) hro hi hs (fun x hx=>List.all_eq_true.1 hX x (by simpa using hx)) (by rw[hd];exact hQ) f (closedB_out hcl) (Region.free_spec hi hf) (by simpa using hr) ⟨hy,hab⟩ hS (by rw[hd];exact h)
theorem AnyF.skip{i d:Nat}{oi:Oper}{f:Nat}{L:Array Bool}{a:Act}{w:World}(hro:F.round=none)(hi:ops[i]? =some oi)(hd:oi.dst=some d)(hs:Region.noSelect ops=true)(hf:Region.free md ops L i=true)
 (hr:(Region.ready md ops L).contains i=true)(hcl:closedB md ops L=true)(hX:X.all (fun x=>leads md ops ops.size x i)=true)(hQ:∀c a w,Q (.panic c) (a.put (some d) undef) w→Q (.panic c) a w)(hS:S w)
 (hun:Region.wanted oi (yielded ops a.tmps)=false)(hab:∀w,oi.about P w a.eval=none)(h:AnyF F n P md ops Q S X f (L.setIfInBounds i true) (a.put (some d) undef) w):AnyF F n P md ops Q S X (f+1) L a w:=
 AnyF.takeD undef hro hi hd hs hf hr hcl hX hQ hS (Or.inr ⟨hun,rfl⟩) hab h
theorem AnyF.one{i:Nat}{o:Oper}{f:Nat}{L:Array Bool}{a:Act}{w:World}(hi:ops[i]? =some o)(hr:Region.ready md ops L=[i])
 (h:∀K':Act→World→Prop,Hid (∀a w,(X.contains i=false→S w)→AnyF F n P md ops Q S X f (L.setIfInBounds i true) a w→K' a w)→if Region.wanted o (yielded ops a.tmps)=true then Oper.wpIn F n P o a w K' Q else(∀f,o.about P w a.eval=some f→F.fn f)∧K' (a.put o.dst undef) w):AnyF F n P md ops Q S X (f+1) L a w:=
 ⟨fun e=>absurd (hr.symm.trans e) (by simp),fun j hj=>by
   rw[hr]at hj;obtain rfl:j=i:=by simpa using hj
   exact wpOpIn_step hi (fun K' hK=>h K' (fun a w h1 h2=>hK a w ⟨h1,h2⟩))⟩
theorem AnyF.done{f:Nat}{L:Array Bool}{a:Act}{w:World}(hr:Region.ready md ops L=[])(h:Q .normal a w):AnyF F n P md ops Q S X f L a w:=by
 cases f with
 |zero=>exact⟨hr,h⟩
 |succ f=>exact⟨fun _=>h,fun i hi=>by rw[hr]at hi;simp at hi⟩
theorem AnyF.region{id:Nat}{a:Act}{w:World}(S:World→Prop)(X:List Nat)(hm:P.follows .mixedOrders=true)(h:AnyF F n P .any ops Q S X ops.size (Array.replicate ops.size false) a w.drew):(Code.region id ops true).wpIn F n P Q a w:=
 wpIn_region_any hm h.any
end
end Go.Proofs.YtbacmamplkdgaaaGreatDoor
