import Derived.Deep.RegionLaw
import Derived.Test.YtbdagpckhfcneaaGreatDoorZ3r
set_option maxRecDepth 100000
set_option maxHeartbeats 8000000
namespace Go.Proofs.YtbdagpckhfcneaaGreatDoor
open Go Go.RowKit Go.Deep Go.Maps Go.Proofs.Tryz
variable {v:Value}{w w':World}{b n B g:Nat}{ids:Nat->Int}{l:List Int}
def QC(v:Value):Option (DataW Unit×List MemPlace):=
 match v with
 | .pointer none=>some (.lit (.int .i64 (-1)),[])
 | .pointer (some ⟨b,0,none⟩)=>some (.lit (.int .i64 (b:Int)),[])
 |_=>none
theorem Lz{c:Int}{ps:List MemPlace}(h:QC v=some (.lit (.int .i64 c),ps)):v= .pointer (if c= -1 then none else some ⟨c.toNat,0,none⟩):=by
 unfold QC at h;split at h
 ·simp only[Option.some.injEq,Prod.mk.injEq,DataW.lit.injEq,Lit.int.injEq]at h;rw[if_pos h.1.2.symm]
 ·simp only[Option.some.injEq,Prod.mk.injEq,DataW.lit.injEq,Lit.int.injEq]at h;obtain⟨⟨_,e⟩,_⟩:=h;rw[if_neg (by omega),<-e];simp
 ·cases h
def Gt(w:World)(b n:Nat)(m:Int->Option Nat):Prop:=
 ∃D:DataW Unit,w.ownsMap prog 2 QC b n D/\IsMap D/\
  ∀x,Maps.has D (.int .i64 x)=(m x).isSome/\∀v,m x=some v->D.atKey (.int .i64 x) (.lit (.int .i64 (-1)))= .lit (.int .i64 (v:Int))
theorem Gt.made(w:World):Gt (w.alloc (.map #[] 0)) w 0 (fun _=>none):=
 ⟨.map [],World.ownsMap_made _ _ _ _,isMap_empty,fun x=>⟨rfl,fun v h=>by cases h⟩⟩
theorem Gt.of_block{m:Int->Option Nat}(h:Gt w b n m)(e:w'.heap[b]? =w.heap[b]?):Gt w' b n m:=by
 obtain⟨D,⟨es,clock,hb,F,hs,hD⟩,r⟩:=h;exact⟨D,⟨es,clock,e.trans hb,F,hs,hD⟩,r⟩
theorem Gt.lt{m:Int->Option Nat}(h:Gt w b n m):b<w.heap.size:=by
 obtain⟨D,h1,_⟩:=h;exact h1.lt
theorem Gt.below{m:Int->Option Nat}(h:Gt w b n m)(hb:Below w w w'):Gt w' b n m:=h.of_block (hb.block b h.lt)
theorem Gt.isMap{m:Int->Option Nat}(h:Gt w b n m):∃es clock,w.heap[b]? =some (.map es clock):=by
 obtain⟨D,⟨es,clock,hb,_⟩,_⟩:=h;exact⟨es,clock,hb⟩
def It(m:Int->Option Nat)(k:Int)(v:Nat)(x:Int):Option Nat:=if k=x then some v else m x
theorem Gt.put{D:DataW Unit}{m:Int->Option Nat}{k:Int}{v:Nat}(h2:IsMap D)
 (h3:∀x,Maps.has D (.int .i64 x)=(m x).isSome/\∀v,m x=some v->D.atKey (.int .i64 x) (.lit (.int .i64 (-1)))= .lit (.int .i64 (v:Int))):
 IsMap (D.put (.int .i64 k) (.lit (.int .i64 (v:Int))))/\
 ∀x,Maps.has (D.put (.int .i64 k) (.lit (.int .i64 (v:Int)))) (.int .i64 x)=(It m k v x).isSome/\∀u,It m k v x=some u->(D.put (.int .i64 k) (.lit (.int .i64 (v:Int)))).atKey (.int .i64 x) (.lit (.int .i64 (-1)))= .lit (.int .i64 (u:Int)):=by
 refine⟨h2.put _ _,fun x=>?_⟩;by_cases e:k=x
 ·subst e;refine⟨?_,fun u hu=>?_⟩
  ·rw[has_put_same h2 (by trivial)];simp[It]
  ·simp[It]at hu;subst hu;exact atKey_put_same h2 (by trivial) _ _
 ·have hne:(Lit.int .i64 x)≠(Lit.int .i64 k):=by simp;exact fun h=>e h.symm
  refine⟨?_,fun u hu=>?_⟩
  ·rw[has_put_other hne];simp[It,e];exact(h3 x).1
  ·simp[It,e]at hu;rw[atKey_put_other hne];exact(h3 x).2 u hu
theorem ZD(w:World):(zeroValue 87).run prog w= .ok (.pointer none) w:=by kernel_rfl
theorem Gt.look{m:Int->Option Nat}{x:Int}(h:Gt w b n m)(hx:(Lit.int .i64 x).wf=true):
 (Instr.lookup 88 (.map (some b)) (.int .i64 x) false).run prog w= .ok (.pointer ((m x).map fun p=>⟨p,0,none⟩)) w:=by
 obtain⟨D,hown,hD,hall⟩:=h;obtain⟨v,ps,hrun,hv⟩:=hown.lookup Hh underlying88 (ZD w) (zd:= .lit (.int .i64 (-1))) (zp:=[]) rfl (keyOf_int_mk underlying2 hx);obtain⟨h1,h2⟩:=hall x;rw[hrun];cases hm:m x with
 |none=>
  have:Maps.has D (.int .i64 x)=false:=by rw[h1,hm];rfl
  rw[atKey_of_not_has this]at hv;rw[Lz hv];rfl
 |some p=>
  rw[h2 p hm]at hv;rw[Lz hv,if_neg (by omega)];simp
theorem Dp.less{m:Nat}(h:Dp ids n)(hm:m<=n):Dp ids m:=fun i j hij hj=>h i j hij (by omega)
theorem Uu{k:Nat}(h:Dp ids (k+1))(x:Int):Bh ids (k+1) x=if ids k=x then some k else Bh ids k x:=by
 split
 ·rename_i e;subst e;exact Dq h (Nat.lt_succ_self k)
 ·rename_i e;cases e1:Bh ids k x with
  |none=>
   cases e2:Bh ids (k+1) x with
   |none=>rfl
   |some j=>
    obtain⟨j1,j2⟩:=Ay e2;by_cases ej:j=k
    ·subst ej;exact absurd j2 e
    ·exact absurd j2 (Ig e1 j (by omega))
  |some j=>
   obtain⟨j1,j2⟩:=Ay e1;rw[<-j2];exact Dq h (by omega)
structure DJ(w:World)(B c n:Nat)(ids:Nat->Int)(ob off:Nat)(nb:Nat->Nat)(kv:Nat->Value)(K:Nat->List Int):Prop where
 map:Gt w c n (fun x=>(Bh ids n x).map nb)
 blk:∀i,i<n->Ag w (nb i) (.cells #[.pointer (some ⟨ob,off+i*10,none⟩),kv i] 93)
 inj:∀i j,i<n->j<n->nb i=nb j->i=j
 own:∀i,i<n->AE w B (kv i) (K i)
 apart:∀i j,i<n->j<n->i≠j->(kv i).ownBlock=none∨(kv i).ownBlock≠(kv j).ownBlock
 low:∀i,i<n->B<=nb i
 lowc:B<=c
theorem KJ(h:AE w B v l)(e:v.ownBlock=some g):∃cur,w.heap[g]? =some (.cells cur 2):=by
 rcases h.2 with⟨rfl,_⟩|⟨g',cap,cur,rfl,_,hb,_⟩
 ·cases e
 ·simp only[Value.ownBlock,Option.some.injEq]at e;subst e;exact⟨cur,hb⟩
theorem TX(h:AE w B v l){cs:Array Value}{t:Nat}(hg:Ag w g (.cells cs t))(ht:t≠2):some g≠v.ownBlock:=fun e=>by
 obtain⟨cur,hb⟩:=KJ h e.symm;unfold Ag at hg;rw[hg]at hb;simp only[Option.some.injEq,Obj.cells.injEq]at hb;exact ht hb.2.1
theorem Xx(h:AE w B v l){m:Int->Option Nat}(hg:Gt w g n m):some g≠v.ownBlock:=fun e=>by
 obtain⟨cur,hb⟩:=KJ h e.symm;obtain⟨es,clock,hm⟩:=hg.isMap;rw[hm]at hb;cases hb
theorem DJ.below{c:Nat}{ob off:Nat}{nb:Nat->Nat}{kv:Nat->Value}{K:Nat->List Int}(h:DJ w B c n ids ob off nb kv K)(hb:Below w w w'):DJ w' B c n ids ob off nb kv K:=
 ⟨h.map.below hb,fun i hi=>(h.blk i hi).below hb,h.inj,fun i hi=>World.ownsRow.kept (h.own i hi) (row:=none) ⟨hb.os,hb.tape,hb.output,hb.size,fun k hk _=>hb.block k hk⟩ (by
   cases e:(kv i).ownBlock with
   |none=>exact .inl rfl
   |some g=>exact .inr (by simp)),h.apart,h.low,h.lowc⟩
theorem DJ.step{W W':World}{B c n:Nat}{ids:Nat->Int}{ob off:Nat}{nb:Nat->Nat}{kv:Nat->Value}{K:Nat->List Int}(H:DJ W B c n ids ob off nb kv K){u:Nat}(hu:u<n){v':Value}{x:Int}
 (ho:AE W' B v' (K u++[x]))(hgr:W.grownBy W' (kv u).ownBlock)(hv:v'.ownBlock=(kv u).ownBlock∨v'.ownBlock=some W):
 DJ (W'.setCell ⟨nb u,1,none⟩ v') B c n ids ob off nb (fun j=>if j=u then v' else kv j) (fun j=>if j=u then K u++[x]else K j):=by
 have bk:∀i,i<n->Ag W' (nb i) (.cells #[.pointer (some ⟨ob,off+i*10,none⟩),kv i] 93):=fun i hi=>(hgr.block (nb i) (H.blk i hi).lt (TX (H.own u hu) (H.blk i hi) (by omega))).trans (H.blk i hi);have mk:Gt W' c n (fun x=>(Bh ids n x).map nb):=H.map.of_block (hgr.block c H.map.lt (Xx (H.own u hu) H.map));have cne:c≠nb u:=fun e=>by
  obtain⟨es,clock,hm⟩:=H.map.isMap;have:=H.blk u hu;unfold Ag at this;rw[<-e,hm]at this;cases this
 have gs:W'.grownBy (W'.setCell ⟨nb u,1,none⟩ v') (some (nb u)):=⟨rfl,rfl,rfl,by rw[nblk_setCell];exact Nat.le_refl _,fun j hj hne=>blk_setCell_other _ _ _ _ (by dsimp only;intro e;exact hne (by rw[e]))⟩;have set:∀{v:Value}{X:List Int},AE W' B v X->AE (W'.setCell ⟨nb u,1,none⟩ v') B v X:=fun{v X} hX=>
  World.ownsRow.kept hX gs (.inr (fun e=>TX hX (bk u hu) (by omega) e.symm))
 refine⟨mk.of_block (blk_setCell_other _ _ _ _ cne),fun i hi=>?_,H.inj,fun i hi=>?_,fun i j hi hj hne=>?_,H.low,H.lowc⟩
 ·by_cases e:i=u
  ·subst e;rw[if_pos rfl];have:=(bk i hi).jB (i:=1) v';simpa using this
  ·rw[if_neg e];exact(bk i hi).other (fun e'=>e (H.inj i u hi hu e'.symm)) v'
 ·by_cases e:i=u
  ·subst e;rw[if_pos rfl,if_pos rfl];exact set ho
  ·rw[if_neg e,if_neg e];exact set (World.ownsRow.kept (H.own i hi) hgr (H.apart i u hi hu e))
 ·have lt:∀j,j<n->(kv j).ownBlock=none∨(kv j).ownBlock≠some W.heap.size:=fun j hj=> .inr fun e=>by have:=(World.ownsRow.lt (H.own j hj) _ e).2;omega
  by_cases e:i=u
  ·subst e;rw[if_pos rfl,if_neg (fun e=>hne e.symm)];rcases hv with hv|hv
   ·rw[hv];exact H.apart _ _ hi hj hne
   ·rw[hv];exact .inr (fun e=>by have:=(World.ownsRow.lt (H.own j hj) _ e.symm).2;omega)
  ·rw[if_neg e];by_cases e':j=u
   ·subst e';rw[if_pos rfl];rcases hv with hv|hv
    ·rw[hv];exact H.apart _ _ hi hj hne
    ·rw[hv];exact lt i hi
   ·rw[if_neg e'];exact H.apart _ _ hi hj hne
variable {ids ups:Nat->Int}{q i n B:Nat}{w w':World}
def BH(ids ups:Nat->Int)(q i:Nat):List Int:=((List.range q).filter (fun j=>ups j==ids i)).map ids
theorem Ux(h:ups q=ids i):BH ids ups (q+1) i=BH ids ups q i++[ids q]:=by
 simp[BH,List.range_succ,h]
theorem P6(h:ups q≠ids i):BH ids ups (q+1) i=BH ids ups q i:=by
 simp[BH,List.range_succ,h]
theorem JA(ids ups:Nat->Int)(q i:Nat):(BH ids ups q i).length<=q:=by
 unfold BH;rw[List.length_map];exact Nat.le_trans (List.length_filter_le _ _) (by simp)
theorem Gt.update{b:Nat}{m:Int->Option Nat}(h:Gt w b n m)(hn:n<maxLen)(kx:Int)(p:Nat)(wk:(Lit.int .i64 kx).wf=true):
 ∃w',(Instr.mapUpdate 88 (.map (some b)) (.int .i64 kx) (.pointer p)).run prog w= .ok () w'/\Gt w' b (n+1) (It m kx p)/\w.grownBy w' (some b):=by
 obtain⟨D,hown,hD,hall⟩:=h;obtain⟨w',hrun,r1,r2⟩:=hown.update Hh underlying88 hn (keyOf_int_mk underlying2 wk) (val:= .pointer p) (d:= .lit (.int .i64 (p:Int))) (ps:=[]) rfl;have hp:=Gt.put (k:=kx) (v:=p) hD hall;exact⟨w',hrun,⟨_,r1,hp.1,hp.2⟩,r2⟩
theorem Az(h:Below w.heap.size w w'):Below w.heap.size w w'.drew:=below_drewN h 1
theorem below_grown{row:Option Nat}(h:w.grownBy w' row)(hB:B<=w.heap.size)(hr:∀j,row=some j->B<=j):Below B w w':=
 ⟨h.os,h.tape,h.output,h.size,fun k hk=>h.block k (by omega) (fun e=>by have:=hr k e.symm;omega)⟩
theorem Mr{ops:Array Oper}{o:Oper}{a:Act}{w:World}{K:Act->World->Prop}{Q:Exit->Act->World->Prop}{E:Prop}(hgd:o.guard=none)(s x:Operand)
 (ho:o.op= .call {callee:= .builtin .append,args:=#[s,x],argTypes:=#[40,40]})
 (B:Nat)(v:Value)(l:List Int)(hs:a.eval s=v)(hown:AE w B v l)(ad:Option Addr)(c:Nat)(r:Int)(hx:a.eval x= .slice ad 1 c)(hc:Dv w ad [r])
 (hm:l.length<=100000)(hB:B<=w.heap.size)
 (h:∀a' c' w',AE w' B (.slice a' (l.length+1) c') (l++[r])->w.grownBy w' v.ownBlock->((Value.slice a' (l.length+1) c').ownBlock=v.ownBlock∨(Value.slice a' (l.length+1) c').ownBlock=some w.heap.size)->K (a.put o.dst (.slice a' (l.length+1) c')) w'):
 if Region.wanted o (yielded ops a.tmps)=true then Oper.wp prog o a w K Q else E:=by
 have hw:Region.wanted o (yielded ops a.tmps)=true:=by simp[Region.wanted,hgd]
 rw[if_pos hw];refine Dr underlying40 Tryz.info2 rfl (by omega) w s x ho B v l.length _ hs hown ad 1 c [.int .i64 r] hx rfl hc (by simp[Value.oneCell']) (by omega) (by omega) hB fun a' c' w' h2 h3 h4=>?_;refine h a' c' w' ?_ h3 h4;unfold AE;rw[List.length_append,List.map_append];exact h2
theorem DJ.same{c:Nat}{ob off:Nat}{nb:Nat->Nat}{kv:Nat->Value}{K K':Nat->List Int}(h:DJ w B c n ids ob off nb kv K)(e:∀i,i<n->K' i=K i):DJ w B c n ids ob off nb kv K':=
 ⟨h.map,h.blk,h.inj,fun i hi=>by rw[e i hi];exact h.own i hi,h.apart,h.low,h.lowc⟩
theorem DJ.grow{wr W w1:World}{B c k:Nat}{ids:Nat->Int}{ob off:Nat}{nb:Nat->Nat}(H:DJ wr B c k ids ob off nb (fun _=> .slice none 0 0) (fun _=>[]))(hr:Dp ids (k+1))(hb:Below wr.heap.size wr W)
 (hA:Ag W wr.heap.size (.cells #[.pointer (some ⟨ob,off+k*10,none⟩),.slice none 0 0] 93))(hM:Gt w1 c (k+1) (It (fun x=>(Bh ids k x).map nb) (ids k) wr.heap.size))(hG:W.grownBy w1 (some c)):
 DJ w1 B c (k+1) ids ob off (fun i=>if i=k then wr.heap.size else nb i) (fun _=> .slice none 0 0) (fun _=>[]):=by
 have hc:c<wr.heap.size:=H.map.lt;have cne:∀i,i<k->c≠nb i:=fun i hi e=>by
  obtain⟨es,clock,hm⟩:=H.map.isMap;have:=H.blk i hi;unfold Ag at this;rw[<-e,hm]at this;cases this
 refine⟨?_,fun i hi=>?_,fun i j hi hj=>?_,fun i hi=>AE.nil _ _,fun i j _ _ _=> .inl rfl,fun i hi=>?_,H.lowc⟩
 ·have e:(fun x=>(Bh ids (k+1) x).map (fun i=>if i=k then wr.heap.size else nb i))=It (fun x=>(Bh ids k x).map nb) (ids k) wr.heap.size:=by
   funext x;rw[Uu hr];unfold It;split
   ·simp
   ·cases e1:Bh ids k x with
    |none=>simp[e1]
    |some j=>
     have:=(Ay e1).1;simp only[Option.map_some,e1];rw[if_neg (by omega)]
  rw[e];exact hM
 ·by_cases e:i=k
  ·subst e;rw[if_pos rfl];exact(hG.block _ hA.lt (by simp;omega)).trans hA
  ·rw[if_neg e];have h1:=(H.blk i (by omega)).below hb;exact(hG.block _ h1.lt (by simp;exact fun e=>cne i (by omega) e.symm)).trans h1
 ·have lt:∀i,i<k->nb i<wr.heap.size:=fun i hi=>(H.blk i hi).lt;by_cases e:i=k
  ·by_cases e':j=k
   ·omega
   ·rw[if_pos e,if_neg e'];have:=lt j (by omega);omega
  ·by_cases e':j=k
   ·rw[if_neg e,if_pos e'];have:=lt i (by omega);omega
   ·rw[if_neg e,if_neg e'];exact H.inj i j (by omega) (by omega)
 ·split
  ·have:=H.lowc;omega
  ·exact H.low i (by omega)
theorem IR(ob off n cap:Nat)(O:Nat->Ab)(w:World)(hn:n<=271)(hO:Hi w (some ⟨ob,off,none⟩) n O)(hr:Dp (fun i=>(O i).id) n)
 (hw:∀i,i<n->(Lit.int .i64 (O i).id).wf=true/\(Lit.int .i64 (O i).up).wf=true):
 Calls prog 48 #[.slice (some ⟨ob,off,none⟩) n cap] w fun e w'=>∃c nb kv,e= .returned (.map (some c))/\DJ w' w.heap.size c n (fun i=>(O i).id) ob off nb kv (BH (fun i=>(O i).id) (fun i=>(O i).up) n)/\Below w.heap.size w w':=by
 have hmm:=@run_makeMap prog;have HO:=hid hO;have HR:=hid hr;have HW:=hid hw;clear hO hr hw;have M0:=hid (Gt.made w);have hb0:=Bd w (.map #[] 0);go_enter func48,ntmps48
 go_wp2;go_loopw [11] (fun i wr=>∃(k:Nat) (nb:Nat->Nat),k<=n/\i= .int .i64 k/\Hid (DJ wr w.heap.size w.heap.size k (fun i=>(O i).id) ob off nb (fun _=> .slice none 0 0) (fun _=>[]))/\Below w.heap.size w wr) (fun i _=>n-(intOf i).toNat)
 case atStart=>
  refine⟨0,fun _=>0,Nat.zero_le _,rfl,hid ⟨?_,fun i hi=>by omega,fun i j hi=>by omega,fun i hi=>by omega,fun i j hi=>by omega,fun i hi=>by omega,Nat.le_refl _⟩,hb0⟩;exact M0.out
 case round=>
  obtain⟨k,nb,hk,rfl,HN,hB⟩:=hrel;clear M0 hb0 hmm;by_cases hlt:k<n
  ·obtain⟨_,_,ea,hlt0,hcc⟩:=HO.out.below hB (by omega);cases ea;have q0:=(hcc k hlt).1.c0;have i1:(k:Int)<(n:Int):=(by omega);have i0:(0:Int)<=(k:Int):=(by omega);have W0:=hid (HW.out k hlt).1;clear hcc;go_wp2;have kn:k<maxLen:=(by unfold maxLen;omega);have n3:No (.cells #[.pointer (some ⟨ob,off+k*10,none⟩),.slice none 0 0] 93):=⟨⟩;have b1:Below wr.heap.size wr ((wr.alloc n3).drew):=Az (Bd wr _);have A1:Ag ((wr.alloc n3).drew) wr.heap.size n3:=Ag.new wr _;obtain⟨w1,hrun,hm1,hg1⟩:=(HN.out.map.below b1).update kn (O k).id wr.heap.size W0.out;have HM:=hid hm1;have HG:=hid hg1;have HB:=hid b1;have HA:=hid A1;clear hm1 hg1 b1 A1;go_region;have NN:=hid (HN.out.grow (HR.out.less (by omega)) HB.out HA.out HM.out HG.out);have B1:Below w.heap.size w w1:=(Af hB HB.out).trans (below_grown HG.out (Af hB HB.out).size (fun j hj=>by cases hj;exact Nat.le_refl _));clear HM HG HB HA hrun HN q0;go_wp2;exact⟨⟨k+1,_,by omega,by go_num,NN,B1⟩,by simp[intOf];omega⟩
  ·have e:k=n:=(by omega);subst e;have i1:¬(k:Int)<(k:Int):=(by omega);go_wp2;go_loopw [28] (fun i wr=>∃(q:Nat) (kv:Nat->Value),q<=k/\i= .int .i64 q/\Hid (DJ wr w.heap.size w.heap.size k (fun i=>(O i).id) ob off nb kv (BH (fun i=>(O i).id) (fun i=>(O i).up) q))/\Below w.heap.size w wr) (fun i _=>k-(intOf i).toNat)
   case atStart=>exact⟨0,_,Nat.zero_le _,rfl,HN,hB⟩
   case round=>
    obtain⟨q,kv,hq,rfl,HN,hB⟩:=hrel;by_cases hlt:q<k
    ·obtain⟨_,_,ea,hlt0,hcc⟩:=HO.out.below hB (by omega);cases ea;obtain⟨q0,q1,q2,q3,q4,q5,q6,q7,q8,q9⟩:=(hcc q hlt).1;simp only[Aq.val,AH.val,Aw.val]at q4 q6 q7 q9;have i1:(q:Int)<(k:Int):=(by omega);have b1:Below wr.heap.size wr (wr.alloc (.cells (O q) 47)):=Bd wr _;have n1:No (.cells (O q) 47):=⟨⟩;have A1:=Ag.new wr n1;have x0:_=some (Value.int .i64 (O q).id):=A1.c0 0 rfl;have x2:_=some (Value.int .i64 (O q).up):=A1.c0 2 rfl;have N1:=hid (HN.out.below b1);have B1:=Af hB b1;have LK:=N1.out.map.look (x:=(O q).up) (HW.out q hlt).2;clear hcc hlt0;cases hf:Bh (fun i=>(O i).id) k (O q).up with
     |none=>
      have NK:Hid (∀i,i<k->BH (fun i=>(O i).id) (fun i=>(O i).up) (q+1) i=BH (fun i=>(O i).id) (fun i=>(O i).up) q i):=hid (fun i hi=>P6 (fun e=>Ig hf i hi e.symm));simp only[hf,Option.map_none]at LK;clear hf;go_wp2;exact⟨⟨q+1,kv,by omega,by go_num,hid (N1.out.same NK.out),B1⟩,by simp[intOf];omega⟩
     |some u=>
      obtain⟨hu,eu⟩:=Ay hf;have EU:=hid eu;simp only[hf,Option.map_some]at LK;clear hf eu;have A2:=N1.out.blk u hu;have O2:=N1.out.own u hu;have hlen:=JA (fun i=>(O i).id) (fun i=>(O i).up) q u;go_wp2;generalize wr.alloc n1=W at *;have y1:_=some (kv u):=A2.c0 1 rfl;have n2:Nw (W.alloc (.cells #[.int .i64 (O q).id] 2)):=⟨⟩;have bl:Below W.heap.size W ((n2:World).drew):=Az (Bd W _);have N2:=hid (N1.out.below bl);have l1:Dv ((n2:World).drew) (some ⟨W.heap.size,0,none⟩) [(O q).id]:=Dv.one (O q).id;have hB2:=Af B1 bl;have OA:=hid (N2.out.own u hu);have HL:=hid l1;have lm:(BH (fun i=>(O i).id) (fun i=>(O i).up) q u).length<=100000:=(by omega);have s1:=hB2.size;have A3:Hid (∀w3:World,((n2:World).drew).grownBy w3 (kv u).ownBlock->Ag w3 (nb u) (.cells #[.pointer (some ⟨ob,off+u*10,none⟩),kv u] 93)):=hid (fun w3 g3=>(g3.block (nb u) (N2.out.blk u hu).lt (TX (N2.out.own u hu) (N2.out.blk u hu) (by omega))).trans (N2.out.blk u hu));have FIN:Hid (∀(a3:Option Addr) (c3:Nat) (w3:World),AE w3 w.heap.size (.slice a3 ((BH (fun i=>(O i).id) (fun i=>(O i).up) q u).length+1) c3) (BH (fun i=>(O i).id) (fun i=>(O i).up) q u++[(O q).id])->((n2:World).drew).grownBy w3 (kv u).ownBlock->((Value.slice a3 ((BH (fun i=>(O i).id) (fun i=>(O i).up) q u).length+1) c3).ownBlock=(kv u).ownBlock∨(Value.slice a3 ((BH (fun i=>(O i).id) (fun i=>(O i).up) q u).length+1) c3).ownBlock=some ((n2:World).drew).heap.size)->
       ∃kv',Hid (DJ (w3.setCell ⟨nb u,1,none⟩ (.slice a3 ((BH (fun i=>(O i).id) (fun i=>(O i).up) q u).length+1) c3)) w.heap.size w.heap.size k (fun i=>(O i).id) ob off nb kv' (BH (fun i=>(O i).id) (fun i=>(O i).up) (q+1)))/\Below w.heap.size w (w3.setCell ⟨nb u,1,none⟩ (.slice a3 ((BH (fun i=>(O i).id) (fun i=>(O i).up) q u).length+1) c3))):=hid (fun a3 c3 w3 ho g3 v3=>by
       refine⟨_,hid ((N2.out.step hu ho g3 v3).same (fun i hi=>?_)),?_⟩
       ·split
        ·rename_i e;subst e;exact Ux EU.out.symm
        ·rename_i e;exact P6 (fun e'=>e (HR.out.inj hi hu (by rw[<-e'];exact EU.out.symm)))
       ·exact(hB2.trans (below_grown g3 hB2.size (fun j hj=>(World.ownsRow.lt (N2.out.own u hu) j hj).1))).setCell (N1.out.low u hu) _)
      have y1a:(n2:World).cell? ⟨nb u,1,none⟩=some (kv u):=((Bd W _).cell (p:=⟨nb u,1,none⟩) A2.lt).trans y1;have un:¬nb u=W.heap.size:=(by have:=A2.lt;omega);have pn:¬wr.heap.size=W.heap.size:=(by have:=A1.lt;omega);clear l1 bl b1 q0 q1 q2 q3 q4 q5 q6 q7 q8 q9 hlen A1 A2 O2 LK hB2;go_region_law((refine Mr (by rfl) _ _ (by rfl) w.heap.size (kv u) (BH (fun i=>(O i).id) (fun i=>(O i).up) q u) (by rfl) OA.out _ 1 (O q).id (by rfl) HL.out lm s1 ?_;intro a3 c3 w3 O3 g3 v3;have Z:=hid (A3.out w3 g3);have z1:_=some (kv u):=Z.out.c0 1 rfl;have z2:=Z.out.jC 1;have O4:=hid O3;have G4:=hid g3;have V4:=hid v3;clear O3 g3 v3))
      all_goals(
       obtain⟨kv',nn,bb⟩:=FIN.out _ _ _ O4.out G4.out V4.out;clear FIN O4 G4 V4 Z z1 z2 A3 OA HL N2 N1 HN;go_wp2;exact⟨⟨q+1,kv',by omega,by go_num,nn,bb⟩,by simp[intOf];omega⟩)
    ·have e:q=k:=(by omega);subst e;have i1:¬(q:Int)<(q:Int):=(by omega);go_wp2;go_ret;exact⟨_,rfl,⟨_,_,HN.out⟩,hB⟩
section
variable {t e size bytes:Nat}{z:Value} (hT:prog.underlying t=some (.slice e)) (hI:(prog.info? e).map (fun i=>(i.zero,i.size,i.bytes))=some (some z,size,bytes)) (hzs:z.cells.size=size) (hsz:0<size)
include hT hI hzs hsz
theorem Bo{ops:Array Oper}{rest:List Oper}{o:Oper}{a:Act}{Q:Exit->Act->World->Prop}(w:World)(hgd:o.guard=none)(s x:Operand)
 (ho:o.op= .call {callee:= .builtin .append,args:=#[s,x],argTypes:=#[t,t]})
 (B:Nat)(v:Value)(n:Nat)(cs:List Value)(hs:a.eval s=v)(hown:w.ownsRow B e size v n cs)(ad:Option Addr)(m c:Nat)(cs':List Value)(hx:a.eval x= .slice ad m c)(hl:cs'.length=m*size)(hc:Bn w ad m cs')(h1:∀u∈cs',u.oneCell'=true)
 (hm:n+m<=4194304)(hby:(n+m)*bytes<=140737488355328)(hB:B<=w.heap.size)
 (h:∀a' c' w',w'.ownsRow B e size (.slice a' (n+m) c') (n+m) (cs++cs')->w.grownBy w' v.ownBlock->wpList prog ops Q rest (a.put o.dst (.slice a' (n+m) c')) w'):wpList prog ops Q (o::rest) a w:=
 wpList_plain hgd fun _ hK=>Dr hT hI hzs hsz w s x ho B v n cs hs hown ad m c cs' hx hl hc h1 hm hby hB fun a' c' w' h2 h3 _=>hK _ _ (h a' c' w' h2 h3)
end
def Aq.new(B:Nat)(w:World)(c:Aq):Prop:=c.at w/\(0<c.n->∃b m F,c.a=some ⟨b,0,none⟩/\B<=b/\c.n*2<=m/\w.rowIs b 95 m F)
def AH.new(B:Nat)(w:World)(c:AH):Prop:=c.at w/\(0<c.n->∃b m F,c.a=some ⟨b,0,none⟩/\B<=b/\c.n<=m/\w.rowIs b 2 m F)
def Aw.new(B:Nat)(w:World)(c:Aw):Prop:=c.at w/\(0<c.n->∃b m F,c.a=some ⟨b,0,none⟩/\B<=b/\(c.n<=m/\m=c.k)/\w.rowIs b 9 m F)
theorem Aq.new.below{B:Nat}{w w':World}{c:Aq}(h:c.new B w)(hb:Below w w w'):c.new B w':=⟨h.1.below hb,fun hn=>by
 obtain⟨b,m,F,e,h1,h2,h3⟩:=h.2 hn;exact⟨b,m,F,e,h1,h2,LF h3 hb⟩⟩
theorem AH.new.below{B:Nat}{w w':World}{c:AH}(h:c.new B w)(hb:Below w w w'):c.new B w':=⟨h.1.below hb,fun hn=>by
 obtain⟨b,m,F,e,h1,h2,h3⟩:=h.2 hn;exact⟨b,m,F,e,h1,h2,LF h3 hb⟩⟩
theorem Aw.new.below{B:Nat}{w w':World}{c:Aw}(h:c.new B w)(hb:Below w w w'):c.new B w':=⟨h.1.below hb,fun hn=>by
 obtain⟨b,m,F,e,h1,h2,h3⟩:=h.2 hn;exact⟨b,m,F,e,h1,h2,LF h3 hb⟩⟩
theorem Aq.new.low{B B':Nat}{w:World}{c:Aq}(h:c.new B w)(hB:B'<=B):c.new B' w:=⟨h.1,fun hn=>by
 obtain⟨b,m,F,e,h1,h2,h3⟩:=h.2 hn;exact⟨b,m,F,e,by omega,h2,h3⟩⟩
theorem AH.new.low{B B':Nat}{w:World}{c:AH}(h:c.new B w)(hB:B'<=B):c.new B' w:=⟨h.1,fun hn=>by
 obtain⟨b,m,F,e,h1,h2,h3⟩:=h.2 hn;exact⟨b,m,F,e,by omega,h2,h3⟩⟩
theorem Aw.new.low{B B':Nat}{w:World}{c:Aw}(h:c.new B w)(hB:B'<=B):c.new B' w:=⟨h.1,fun hn=>by
 obtain⟨b,m,F,e,h1,h2,h3⟩:=h.2 hn;exact⟨b,m,F,e,by omega,h2,h3⟩⟩
theorem De{w:World}{B e size n c:Nat}{a:Option Addr}{cs:List Value}(h:w.ownsRow B e size (.slice a n c) n cs)(hn:0<n):∃b m F,a=some ⟨b,0,none⟩/\B<=b/\n*size<=m/\w.rowIs b e m F:=by
 rcases h.2 with⟨_,h0⟩|⟨g,cap,cur,hv,h1,h2,h3,h4,h5,h6⟩
 ·omega
 ·simp only[Value.slice.injEq]at hv;obtain⟨rfl,_,rfl⟩:=hv;exact⟨g,cur.size,fun i=>cur[i]?.getD undef,rfl,h1,by rw[h5];exact Nat.mul_le_mul_right _ h3,⟨cur,h2,rfl,fun i hi=>by simp[hi]⟩⟩
theorem IX{w:World}{B e n c:Nat}{a:Option Addr}{cs:List Value}(h:w.ownsRow B e 1 (.slice a n c) n cs)(hn:0<n):∃b m F,a=some ⟨b,0,none⟩/\B<=b/\(n<=m/\m=c)/\w.rowIs b e m F:=by
 rcases h.2 with⟨_,h0⟩|⟨g,cap,cur,hv,h1,h2,h3,h4,h5,h6⟩
 ·omega
 ·simp only[Value.slice.injEq]at hv;obtain⟨rfl,_,rfl⟩:=hv;exact⟨g,cur.size,fun i=>cur[i]?.getD undef,rfl,h1,⟨by rw[h5];omega,by rw[h5];omega⟩,⟨cur,h2,rfl,fun i hi=>by simp[hi]⟩⟩
theorem We{w:World}{a:Option Addr}{n:Nat}{f g:Nat->Int}(h:AX w a n f g):Bn w a n (Cf f g n):=fun hn=>by
 obtain⟨b,off,e,hlt,hc⟩:=h hn;refine⟨b,off,e,hlt,fun j u hu=>?_⟩;by_cases hj:j<n*2
 ·rw[Do _ _ _ _ hj]at hu;have hu':=Option.some.inj hu;rw[<-hu'];obtain⟨c0,c1⟩:=hc (j/2) (by omega);unfold Dd;by_cases e2:j%2=0
  ·rw[if_pos e2,<-c0];congr 2;omega
  ·rw[if_neg e2,<-c1];congr 2;omega
 ·rw[List.getElem?_eq_none (by rw[Cu];omega)]at hu;cases hu
theorem Jl{w:World}{a:Option Addr}{n:Nat}{f:Nat->ByteArray}(h:EJ w a n f):Bn w a n ((List.range n).map (fun i=>Value.string (f i))):=fun hn=>by
 obtain⟨b,off,e,hlt,hc⟩:=h hn;refine⟨b,off,e,hlt,fun j u hu=>?_⟩;by_cases hj:j<n
 ·simp[hj]at hu;rw[<-hu];exact hc j hj
 ·simp[hj]at hu
theorem Pe(c:Aq)(w:World)(hc:c.at w)(hn:c.n<=1048576):
 Calls prog 125 #[c.val] w fun e w'=>∃d:Aq,e= .returned d.val/\c.same d/\d.new w w'/\Below w w w':=by
 obtain⟨a,n,cap,f,g⟩:=c;obtain⟨hm,hc⟩:=hc;unfold Aq.val;simp only at hm hc hn ⊢;have L:=hid (We hc);clear hc;go_enter func125,ntmps125
 go_wp2_with(refine Bo underlying28 Tryz.info95 rfl (by omega) _ rfl _ _ rfl w (.slice none 0 0) 0 [] rfl (World.ownsRow_nil _ _ _ _) a n cap (Cf f g n) rfl (by simp[Cf]) L (Kx f g n) (by omega) (by omega) nr ?_;intro a3 c3 w3 o3 g3;rw[Nat.zero_add,List.nil_append]at o3;rw[Nat.zero_add])
 go_ret;have hr:AL w3 w (.slice a3 n c3) n f g:=o3;exact⟨⟨a3,n,c3,f,g⟩,rfl,⟨rfl,rfl,rfl⟩,⟨⟨hm,hr.cats⟩,fun h0=>De o3 h0⟩,below_grown g3 nr (fun j hj=>by cases hj)⟩
theorem Jv(c:AH)(w:World)(hc:c.at w)(hn:c.n<=1048576):
 Calls prog 89 #[c.val] w fun e w'=>∃d:AH,e= .returned d.val/\c.same d/\d.new w w'/\Below w w w':=by
 obtain⟨a,n,cap,f⟩:=c;obtain⟨hm,hc⟩:=hc;unfold AH.val;simp only at hm hc hn ⊢;have L0:=hc.intL;have el:((List.range n).map f).length=n:=by simp
 have L:Hid (Bn w a n (((List.range n).map f).map (Value.int .i64))):=hid (by unfold Dv at L0;rw[el]at L0;exact L0);clear hc L0;go_enter func89,ntmps89
 go_wp2_with(refine Bo underlying40 Tryz.info2 rfl (by omega) _ rfl _ _ rfl w (.slice none 0 0) 0 [] rfl (World.ownsRow_nil _ _ _ _) a n cap (((List.range n).map f).map (Value.int .i64)) rfl (by simp) L (fun u hu=>by obtain⟨y,_,rfl⟩:=List.mem_map.1 hu;rfl) (by omega) (by omega) nr ?_;intro a3 c3 w3 o3 g3;rw[Nat.zero_add,List.nil_append]at o3;rw[Nat.zero_add])
 go_ret;have ho:AE w3 w (.slice a3 ((List.range n).map f).length c3) ((List.range n).map f):=by unfold AE;rw[el];exact o3
 have hi:Bi w3 a3 n f:=fun h0=>by
  obtain⟨b,off,e,hlt,hcc⟩:=(AE.lies ho).ints (by rw[el];exact h0);refine⟨b,off,e,hlt,fun i hi=>?_⟩;have:=hcc i (by rw[el];exact hi);rw[this];simp[AV,hi]
 exact⟨⟨a3,n,c3,f⟩,rfl,⟨rfl,rfl⟩,⟨⟨hm,hi⟩,fun h0=>by have:=De o3 h0;simpa using this⟩,below_grown g3 nr (fun j hj=>by cases hj)⟩
variable {B P t:Nat}{w w':World}{c:Aq}
theorem Ol(c:Aw)(w:World)(hc:c.at w)(hn:c.n<=1048576):
 Calls prog 90 #[c.val] w fun e w'=>∃d:Aw,e= .returned d.val/\c.same d/\d.new w w'/\Below w w w':=by
 obtain⟨a,n,cap,f⟩:=c;obtain⟨hm,hc,hz⟩:=hc;unfold Aw.val;simp only at hm hc hn hz ⊢;have L:=hid (Jl hc);have HZ:=hid hz;clear hc hz;go_enter func90,ntmps90
 go_wp2_with(refine Bo underlying45 Tryz.info9 rfl (by omega) _ rfl _ _ rfl w (.slice none 0 0) 0 [] rfl (World.ownsRow_nil _ _ _ _) a n cap ((List.range n).map (fun i=>Value.string (f i))) rfl (by simp) L (fun u hu=>by obtain⟨y,_,rfl⟩:=List.mem_map.1 hu;rfl) (by omega) (by omega) nr ?_;intro a3 c3 w3 o3 g3;rw[Nat.zero_add,List.nil_append]at o3;rw[Nat.zero_add])
 go_ret;have hi:EJ w3 a3 n f:=fun h0=>by
  obtain⟨b,off,e,hlt,hcc⟩:=Bn.own o3 h0;exact⟨b,off,e,hlt,fun i hi=>hcc i _ (by simp[hi])⟩
 exact⟨⟨a3,n,c3,f⟩,rfl,⟨rfl,rfl⟩,⟨⟨hm,hi,HZ⟩,fun h0=>IX o3 h0⟩,below_grown g3 nr (fun j hj=>by cases hj)⟩
theorem Aq.new.of(h:c.new B w)(hs:w.heap.size<=w'.heap.size)(hb:∀b,c.a=some ⟨b,0,none⟩->0<c.n->w'.heap[b]? =w.heap[b]?):c.new B w':=
 ⟨⟨h.1.1,fun hn=>by
   obtain⟨b,off,e,hlt,hc⟩:=h.1.2 hn;obtain⟨b',_,_,e',_⟩:=h.2 hn;have eb:=e.symm.trans e';cases eb;have ce:∀o,w'.cell? ⟨b,o,none⟩=w.cell? ⟨b,o,none⟩:=fun o=>World.cell?_of_block (a:=⟨b,o,none⟩) (hb b e' hn);exact⟨b,0,e,Nat.lt_of_lt_of_le hlt hs,fun i hi=>by rw[ce,ce];exact hc i hi⟩⟩,fun hn=>by
   obtain⟨b,m,F,e,h1,h2,h3⟩:=h.2 hn;exact⟨b,m,F,e,h1,h2,h3.of_block (hb b e hn)⟩⟩
theorem Aq.new.ne(h:c.new B w){cs:Array Value}(hP:Ag w P (.cells cs t))(ht:t≠95):∀b,c.a=some ⟨b,0,none⟩->0<c.n->b≠P:=fun b e hn=>by
 obtain⟨b',m,F,e',_,_,h3⟩:=h.2 hn;rw[e]at e';cases e';exact E7 h3 hP.row (fun e=>ht e.symm)
theorem AH.new.of{c:AH}(h:c.new B w)(hs:w.heap.size<=w'.heap.size)(hb:∀b,c.a=some ⟨b,0,none⟩->0<c.n->w'.heap[b]? =w.heap[b]?):c.new B w':=
 ⟨⟨h.1.1,fun hn=>by
   obtain⟨b,off,e,hlt,hc⟩:=h.1.2 hn;obtain⟨b',_,_,e',_⟩:=h.2 hn;have eb:=e.symm.trans e';cases eb;have ce:∀o,w'.cell? ⟨b,o,none⟩=w.cell? ⟨b,o,none⟩:=fun o=>World.cell?_of_block (a:=⟨b,o,none⟩) (hb b e' hn);exact⟨b,0,e,Nat.lt_of_lt_of_le hlt hs,fun i hi=>by rw[ce];exact hc i hi⟩⟩,fun hn=>by
   obtain⟨b,m,F,e,h1,h2,h3⟩:=h.2 hn;exact⟨b,m,F,e,h1,h2,h3.of_block (hb b e hn)⟩⟩
theorem AH.new.ne{c:AH}(h:c.new B w){cs:Array Value}(hP:Ag w P (.cells cs t))(ht:t≠2):∀b,c.a=some ⟨b,0,none⟩->0<c.n->b≠P:=fun b e hn=>by
 obtain⟨b',m,F,e',_,_,h3⟩:=h.2 hn;rw[e]at e';cases e';exact E7 h3 hP.row (fun e=>ht e.symm)
theorem Aw.new.of{c:Aw}(h:c.new B w)(hs:w.heap.size<=w'.heap.size)(hb:∀b,c.a=some ⟨b,0,none⟩->0<c.n->w'.heap[b]? =w.heap[b]?):c.new B w':=
 ⟨⟨h.1.1,fun hn=>by
   obtain⟨b,off,e,hlt,hc⟩:=h.1.2.1 hn;obtain⟨b',_,_,e',_⟩:=h.2 hn;have eb:=e.symm.trans e';cases eb;have ce:∀o,w'.cell? ⟨b,o,none⟩=w.cell? ⟨b,o,none⟩:=fun o=>World.cell?_of_block (a:=⟨b,o,none⟩) (hb b e' hn);exact⟨b,0,e,Nat.lt_of_lt_of_le hlt hs,fun i hi=>by rw[ce];exact hc i hi⟩,h.1.2.2⟩,fun hn=>by
   obtain⟨b,m,F,e,h1,h2,h3⟩:=h.2 hn;exact⟨b,m,F,e,h1,h2,h3.of_block (hb b e hn)⟩⟩
theorem Aw.new.ne{c:Aw}(h:c.new B w){cs:Array Value}(hP:Ag w P (.cells cs t))(ht:t≠9):∀b,c.a=some ⟨b,0,none⟩->0<c.n->b≠P:=fun b e hn=>by
 obtain⟨b',m,F,e',_,_,h3⟩:=h.2 hn;rw[e]at e';cases e';exact E7 h3 hP.row (fun e=>ht e.symm)
theorem Vu(tmps:Array Value)(W:World)(P:Nat)(x y:Value)(h:Ag W P (.cells #[x,y] 30))(h2:tmps[2]? =some (.pointer P)):
 (results Tryz.f88 tmps).run prog W= .ok (.agg #[x,y]) W:=by
 obtain⟨z0,z1⟩:=h.two;simp[results,Tryz.results88,go_sem,h2,z0,z1]
theorem AO(b:Int)(c:Aq)(w:World)(hc:c.at w)(hn:c.n<=1048576):
 Calls prog 88 #[.agg #[.int .i64 b,c.val]] w fun e w'=>∃d:Aq,e= .returned (.agg #[.int .i64 b,d.val])/\c.same d/\d.new w w'/\Below w w w':=by
 have n3:No (.cells #[.int .i64 0,.slice none 0 0] 30):=⟨⟩;have n4:No (.cells #[.int .i64 b,c.val] 30):=⟨⟩;have b0:Below w w ((w.alloc n4).alloc n3):=(Bd w _).alloc (by simp) _;have A0:=(Ag.new w n4).alloc n3;have R0:Ag ((w.alloc n4).alloc n3) (w.heap.size+1) n3:=by
  have:=Ag.new (w.alloc n4) n3;simpa using this
 have C1:=hid (Pe c _ (hc.below b0) hn);obtain⟨x0,x1⟩:=A0.two;clear hc;go_enter func88,ntmps88
 go_wp2_with fail
 refine C1.out.mono ?_;rintro e w1 ⟨d,rfl,hs,hd,hb1⟩;have A1:=A0.below hb1;have R1:=R0.below hb1;have B1:=Af b0 hb1;have HD:=hid (hd.low b0.size);have HS:=hid hs;obtain⟨x0',x1'⟩:=A1.two;obtain⟨y0,y1⟩:=R1.two;have xf:=A1.jC;have yf:=R1.jC;have ne1:¬w.heap.size=w.heap.size+1:=by omega
 have ne2:¬w.heap.size+1=w.heap.size:=by omega
 clear hs hd C1 x0 x1 A0 R0 b0 hb1;unfold Aq.val at x1' ⊢;go_wp2;refine bodyPost_ret (Vu _ _ (w.heap.size+1) (.int .i64 b) (.slice d.a d.n d.k) (((R1.other (Q:=w.heap.size) (i:=1) (by omega) _).jB (i:=0) _).jB (i:=1) _) rfl) rfl ⟨d,rfl,HS,?_,?_⟩
 ·refine HD.out.of (by simp) (fun g hg hn'=>?_);have n1:=HD.out.ne A1 (by decide) g hg hn';have n2:=HD.out.ne R1 (by decide) g hg hn';rw[blk_setCell_other _ _ _ _ (by dsimp only;omega),blk_setCell_other _ _ _ _ (by dsimp only;omega),blk_setCell_other _ _ _ _ (by dsimp only;omega)]
 ·exact((B1.setCell (by dsimp only;omega) _).setCell (by dsimp only;omega) _).setCell (by dsimp only;omega) _
open Go.BigFrame Go.Shelf
variable {W:World}{P t:Nat}
theorem Dc{ops:Array Oper}{o:Oper}{a:Act}{w:World}{K:Act->World->Prop}{Q:Exit->Act->World->Prop}{E:Prop}(hgd:o.guard=none)(f:Nat)(x:Operand)(ats:Array TypeId)
 (ho:o.op= .call {callee:= .value (.func f),args:=#[x],argTypes:=ats})(eg:∀args w,(callFunc f args).run prog w= .ok (.enter f args) w)(v0:Value)(hv:a.eval x=v0)
 (R:Value->World->Prop)(hc:Calls prog f #[v0] w fun e w'=>∃v,e= .returned v/\R v w')(h:∀v w',R v w'->K (a.put o.dst v) w'):
 if Region.wanted o (yielded ops a.tmps)=true then Oper.wp prog o a w K Q else E:=by
 have hw:Region.wanted o (yielded ops a.tmps)=true:=by simp[Region.wanted,hgd]
 rw[if_pos hw];have e:(execOp a.eval o).run prog w= .ok (.enter f #[v0]) w:=by
  unfold execOp;simp only[ho,resolve,invoke,Sem.run_bind,List.map_toArray,List.map_cons,List.map_nil,hv];simp[go_sem,eg,Act.eval]
 unfold Oper.wp;rw[e,Oper.upon_enter];exact hc.mono fun e w' ⟨v,he,hr⟩=>by subst he;exact h v w' hr
def Ae.new(B:Nat)(w:World)(t:Ae):Prop:=t.c1.new B w/\t.c2.new B w/\t.own.new B w
def Ae.apart(t:Ae):Prop:=∀b b',t.c1.a=some ⟨b,0,none⟩->0<t.c1.n->t.c2.a=some ⟨b',0,none⟩->0<t.c2.n->b≠b'
theorem Ag.seven{x0 x1 x2 x3 x4 x5 x6:Value}(h:Ag W P (.cells #[x0,x1,x2,x3,x4,x5,x6] t)):W.cell? ⟨P,0,none⟩=some x0/\W.cell? ⟨P,1,none⟩=some x1/\W.cell? ⟨P,2,none⟩=some x2/\W.cell? ⟨P,3,none⟩=some x3/\W.cell? ⟨P,4,none⟩=some x4/\W.cell? ⟨P,5,none⟩=some x5/\W.cell? ⟨P,6,none⟩=some x6:=by
 unfold Ag at h;simp[World.cell?,h]
theorem Ph(tmps:Array Value)(W:World)(P:Nat)(x0 x1 x2 x3 x4 x5 x6:Value)(h:Ag W P (.cells #[x0,x1,x2,x3,x4,x5,x6] 42))(h2:tmps[2]? =some (.pointer P)):
 (results Tryz.f47 tmps).run prog W= .ok (.agg #[x0,x1,x2,x3,x4,x5,x6]) W:=by
 obtain⟨z0,z1,z2,z3,z4,z5,z6⟩:=h.seven;simp[results,Tryz.results47,go_sem,h2,z0,z1,z2,z3,z4,z5,z6]
theorem Ag.all7{z0 z1 z2 z3 z4 z5 z6:Value}(h:Ag W P (.cells #[z0,z1,z2,z3,z4,z5,z6] t))(x0 x1 x2 x3 x4 x5 x6:Value):
 Ag (((((((W.setCell ⟨P,0,none⟩ x0).setCell ⟨P,1,none⟩ x1).setCell ⟨P,2,none⟩ x2).setCell ⟨P,3,none⟩ x3).setCell ⟨P,4,none⟩ x4).setCell ⟨P,5,none⟩ x5).setCell ⟨P,6,none⟩ x6) P (.cells #[x0,x1,x2,x3,x4,x5,x6] t):=by
 have h0:Ag (W.setCell ⟨P,0,none⟩ x0) P (.cells #[x0,z1,z2,z3,z4,z5,z6] t):=h.jB (i:=0) x0;have h1:Ag ((W.setCell ⟨P,0,none⟩ x0).setCell ⟨P,1,none⟩ x1) P (.cells #[x0,x1,z2,z3,z4,z5,z6] t):=h0.jB (i:=1) x1;have h2:Ag (((W.setCell ⟨P,0,none⟩ x0).setCell ⟨P,1,none⟩ x1).setCell ⟨P,2,none⟩ x2) P (.cells #[x0,x1,x2,z3,z4,z5,z6] t):=h1.jB (i:=2) x2;have h3:Ag ((((W.setCell ⟨P,0,none⟩ x0).setCell ⟨P,1,none⟩ x1).setCell ⟨P,2,none⟩ x2).setCell ⟨P,3,none⟩ x3) P (.cells #[x0,x1,x2,x3,z4,z5,z6] t):=h2.jB (i:=3) x3;have h4:Ag (((((W.setCell ⟨P,0,none⟩ x0).setCell ⟨P,1,none⟩ x1).setCell ⟨P,2,none⟩ x2).setCell ⟨P,3,none⟩ x3).setCell ⟨P,4,none⟩ x4) P (.cells #[x0,x1,x2,x3,x4,z5,z6] t):=h3.jB (i:=4) x4;have h5:Ag ((((((W.setCell ⟨P,0,none⟩ x0).setCell ⟨P,1,none⟩ x1).setCell ⟨P,2,none⟩ x2).setCell ⟨P,3,none⟩ x3).setCell ⟨P,4,none⟩ x4).setCell ⟨P,5,none⟩ x5) P (.cells #[x0,x1,x2,x3,x4,x5,z6] t):=h4.jB (i:=5) x5;exact h5.jB (i:=6) x6
theorem Lg(t:Ae)(w:World)(ht:t.at w)(hs:t.small):
 Calls prog 47 #[t.val] w fun e w'=>∃u:Ae,e= .returned u.val/\t.same u/\u.new w w'/\u.apart/\Below w w w':=by
 have EG:∀args w,(callFunc 88 args).run prog w= .ok (.enter 88 args) w:=enters_of func88 (by kernel_rfl) rfl;have EH:∀args w,(callFunc 89 args).run prog w= .ok (.enter 89 args) w:=enters_of func89 (by kernel_rfl) rfl;have n4:No (.cells #[.int .i64 0,.int .i64 0,.slice none 0 0,.int .i64 0,.slice none 0 0,.slice none 0 0,.int .i64 0] 42):=⟨⟩;have b0:Below w w ((w.alloc t.blk).alloc n4):=(Bd w _).alloc (by simp) _;have A0:=(Ag.new w t.blk).alloc n4;have R0:Ag ((w.alloc t.blk).alloc n4) (w.heap.size+1) n4:=by
  have:=Ag.new (w.alloc t.blk) n4;simpa using this
 have T0:=hid (ht.below b0);unfold Ae.blk at b0 A0 R0 T0;unfold Ae.val;obtain⟨x0,x1,x2,x3,x4,x5,x6⟩:=A0.seven;obtain⟨m1,m2,m3⟩:=hs;clear ht;go_enter func47,ntmps47
 go_wp2;have n5:No (.cells #[t.id,t.b1,t.c1.val,t.b2,t.c2.val,t.own.val,t.made] 42):=⟨⟩;generalize hV:((w.alloc n5).alloc n4)=V at *;have B0:=hid b0;have A0':=hid A0;have R0':=hid R0;have PA:Hid (∀W,Below V V W->Calls prog 88 #[.agg #[t.b1,t.c1.val]] W fun e w'=>∃v,e= .returned v/\∃d:Aq,v= .agg #[t.b1,d.val]/\t.c1.same d/\d.new W w'/\Below W W w'):=hid (fun W hW=>(AO t.b1 t.c1 W (T0.out.below hW).1 m1).mono fun e w' ⟨d,h1,h2,h3,h4⟩=>⟨_,h1,d,rfl,h2,h3,h4⟩);have PB:Hid (∀W,Below V V W->Calls prog 88 #[.agg #[t.b2,t.c2.val]] W fun e w'=>∃v,e= .returned v/\∃d:Aq,v= .agg #[t.b2,d.val]/\t.c2.same d/\d.new W w'/\Below W W w'):=hid (fun W hW=>(AO t.b2 t.c2 W (T0.out.below hW).2.1 m2).mono fun e w' ⟨d,h1,h2,h3,h4⟩=>⟨_,h1,d,rfl,h2,h3,h4⟩);have PC:Hid (∀W,Below V V W->Calls prog 89 #[t.own.val] W fun e w'=>∃v,e= .returned v/\∃d:AH,v=d.val/\t.own.same d/\d.new W w'/\Below W W w'):=hid (fun W hW=>(Jv t.own W (T0.out.below hW).2.2 m3).mono fun e w' ⟨d,h1,h2,h3,h4⟩=>⟨_,h1,d,rfl,h2,h3,h4⟩);have V0:Hid (Below V V V.drew):=hid (Below.refl _ V).drew;have Ad:Hid (Ag V.drew w n5):=hid A0;clear hV b0 A0 R0;have mk1:True:=trivial;have mk2:True:=trivial;go_region_law(first
  |(clear mk1;refine Dc (by rfl) 88 _ _ (by rfl) EG _ (by rfl) _ (PA _ V0) ?_;rintro v w1 ⟨d1,rfl,s1,n1,h1⟩;have V1:=hid (Af V0 h1);obtain⟨e0,e1,e2,e3,e4,e5,e6⟩:=(Ad.out.below h1).seven)
  |(clear mk2;refine Dc (by rfl) 88 _ _ (by rfl) EG _ (by rfl) _ (PB _ V1) ?_;rintro v w2 ⟨d2,rfl,s2,n2,h2⟩;have V2:=hid (Af V1 h2);obtain⟨f0,f1,f2,f3,f4,f5,f6⟩:=((Ad.out.below h1).below h2).seven)
  |(refine Dc (by rfl) 89 _ _ (by rfl) EH _ (by rfl) _ (PC _ V2) ?_;rintro v w3 ⟨d3,rfl,s3,n3,h3⟩;have V3:=hid (Af V2 h3);unfold Aq.val AH.val;obtain⟨g0,g1,g2,g3,g4,g5,g6⟩:=(((Ad.out.below h1).below h2).below h3).seven;have gf:=(((Ad.out.below h1).below h2).below h3).jC))
 all_goals(
  have A3:=hid (((Ad.out.below h1).below h2).below h3);have R3:Hid (Ag w3 (w.heap.size+1) _):=hid (R0'.out.below V3);have N1:=hid ((n1.below h2).below h3);have N2:=hid (n2.below h3);have N3:=hid n3;have S1:=hid s1;have S2:=hid s2;have S3:=hid s3;have AP:Hid (∀b b',d1.a=some ⟨b,0,none⟩->0<d1.n->d2.a=some ⟨b',0,none⟩->0<d2.n->b≠b'):=hid (fun b b' e1 p1 e2 p2=>by
   obtain⟨c,_,_,q1,_,_,q2⟩:=n1.2 p1;obtain⟨c',_,_,q3,q4,_⟩:=n2.2 p2;rw[e1]at q1;rw[e2]at q3;cases q1;cases q3;have:=q2.lt;omega)
  have B3:=hid (Af B0 V3);have L0:=hid (show w.heap.size<=V.drew.heap.size from B0.out.size);have L1:=hid (Nat.le_trans L0 h1.size);have L2:=hid (Nat.le_trans L1 h2.size);obtain⟨r0,r1,r2,r3,r4,r5,r6⟩:=R3.out.seven;have rf:=R3.out.jC;have ne1:¬w.heap.size+1=w.heap.size:=by omega
  have ne2:¬w.heap.size=w.heap.size+1:=by omega
  clear h1 h2 h3 n1 n2 n3 s1 s2 s3 e0 e1 e2 e3 e4 e5 e6 f0 f1 f2 f3 f4 f5 f6 x0 x1 x2 x3 x4 x5 x6 PA PB PC EG EH V0 V1 V2 V3 Ad;simp only[Aq.val,AH.val]at g2 g4 g5;go_wp2;refine bodyPost_ret (Ph _ _ (w.heap.size+1) (.int .i64 t.id) (.int .i64 t.b1) (.slice d1.a d1.n d1.k) (.int .i64 t.b2) (.slice d2.a d2.n d2.k) (.slice d3.a d3.n d3.k) (.int .i64 t.made) (Ag.all7 (((((R3.out.other (by omega) _).other (by omega) _).other (by omega) _).other (by omega) _).other (by omega) _) _ _ _ _ _ _ _) rfl) rfl ⟨⟨t.id,t.b1,d1,t.b2,d2,d3,t.made⟩,rfl,⟨rfl,rfl,S1,rfl,S2,S3,rfl⟩,⟨?_,?_,?_⟩,AP,?_⟩
  ·refine(N1.out.low L0).of (by simp) (fun g hg hn'=>?_);have q1:=N1.out.ne A3 (by decide) g hg hn';have q2:=N1.out.ne R3 (by decide) g hg hn';iterate 12 rw[blk_setCell_other _ _ _ _ (by dsimp only;omega)]
  ·refine(N2.out.low L1).of (by simp) (fun g hg hn'=>?_);have q1:=N2.out.ne A3 (by decide) g hg hn';have q2:=N2.out.ne R3 (by decide) g hg hn';iterate 12 rw[blk_setCell_other _ _ _ _ (by dsimp only;omega)]
  ·refine(N3.out.low L2).of (by simp) (fun g hg hn'=>?_);have q1:=N3.out.ne A3 (by decide) g hg hn';have q2:=N3.out.ne R3 (by decide) g hg hn';iterate 12 rw[blk_setCell_other _ _ _ _ (by dsimp only;omega)]
  ·iterate 12 refine Below.setCell ?_ (by dsimp only;omega) _
   exact B3.out)
end Go.Proofs.YtbdagpckhfcneaaGreatDoor
