import Derived.Deep.DeepCutAuto
import Derived.RangeFuncNested
import Derived.RangeFuncBound
import Derived.RangeFuncCalls
import Derived.RangeFuncLeaves
import Derived.OrdersIn
import Derived.OrdersHeld
import Derived.Shelf.RegionOpen
import Derived.OwnWalkIn
import Derived.TacticsInMore
import Derived.LoopNIn
import Derived.LoopIn
import Derived.RangeFuncFrom
import Derived.Test.YtdaccbddcjlkpaaGreatDoorZ7p
set_option maxRecDepth 100000
set_option maxHeartbeats 4000000
namespace Go.Proofs.YtdaccbddcjlkpaaGreatDoor
open Go.RowKit Go.Maps Go.Sort Go.Shelf Go.Deep Go.Proofs.Tryz
open Go.Ending renaming returned→rT
open _root_.List renaming getElem?_eq_getElem→jM,getD_eq_getElem?_getD→jN,getElem_mem→qk
open _root_.Option renaming getD_some→zF
open Go.World renaming ownsRow→qq
open Go.WideShapes (add_plain)
variable {w:World}{b n:Nat}{l:List Int}
theorem Tryz.sortsA(m:Nat):AnyZI.SortsIn prog Tryz.sortedA_ren Fence.wide m:=
 ⟨fun blk off cap ss W hH hblk hsz=>callsIn_wide.2 (AnyM.slices_Sort_int Tryz.sortA blk off cap ss W hH hblk hsz),
  fun p cap W=>callsIn_wide.2 (AnyM.slices_Sort_int_none Tryz.sortA p cap W)⟩
theorem ZW(mb:Option Nat)(W:World):Calls prog 224 #[.map mb] W fun e w'=>e= rT (.func (.func 236) #[] #[.pointer (W)])/\w'=W.alloc (.cells #[.map mb] 108):=
 (callsIn_wide (n:=5)).1 (AnyZI.keys_in Tryz.keysA Fence.wide 5 trivial rfl mb W)
theorem Tv{D:DataW Unit}(hown:w.ownsMap prog 2 (plainElem prog 2) b n D):(intKeys D).Nodup/\∀x,x∈intKeys D↔Maps.has D (.int .i64 x)=true:=by
 obtain⟨es,hD,hpw,_⟩:=hown.entries Ip;obtain⟨es',hD',hko⟩:=hown.keysOf;obtain rfl:es=es':=by rw[hD]at hD';simpa using hD'
 subst hD;have hk:∀p∈es,∃x,p.1= .int .i64 x:=fun p hp=>by
  obtain⟨v,hv⟩:=hko p hp;obtain⟨x,_,hx,_⟩:=Maps.keyOf_i64 underlying2 hv;exact⟨x,hx⟩
 constructor
 ·show(es.map fun p=>Go.intOf p.1).Nodup;refine List.pairwise_map.2 (hpw.imp_of_mem fun{p q} hp' hq' hne e=>hne ?_);obtain⟨a,ha⟩:=hk p hp';obtain⟨b,hb⟩:=hk q hq';rw[ha,hb]at e ⊢;exact congrArg _ e
 ·intro x;rw[has_eq,List.any_eq_true];show x∈es.map (fun p=>Go.intOf p.1)↔_;rw[List.mem_map];constructor
  ·rintro⟨p,hp',rfl⟩;obtain⟨a,ha⟩:=hk p hp';exact⟨p,hp',by rw[ha];simp[Lit.sameKey,Go.intOf]⟩
  ·rintro⟨p,hp',hs⟩;obtain⟨a,ha⟩:=hk p hp';rw[ha]at hs;exact⟨p,hp',by rw[ha];simpa[Lit.sameKey,Go.intOf]using hs⟩
def nth(l:List Int)(i:Nat):Int:=l.getD i 0
theorem Sb(hs:l.Pairwise (fun a b=>a<=b))(hn:l.Nodup):∀j,j<l.length->∀i,i<j->nth l i<nth l j:=by
 intro j hj i hi;have hp:=hs.and hn;have:=List.pairwise_iff_getElem.1 hp i j qQ hj hi;simp only[nth,jN,jM hj,jM (show i<l.length by omega),zF];have h1:=this.1;have h2:=this.2;omega
theorem Bp.of_owns{B:Nat}{v:Value}(h:w.ownsRow B 2 1 v n (l.map Go.encZ)):l.length=n/\∃a c,v= .slice a n c/\Bp w a n (nth l)/\∀x,a=some x->B<=x.block:=by
 have hl:l.length=n:=by have:=h.1;simpa using this
 refine⟨hl,?_⟩;rcases h.2 with⟨rfl,rfl⟩|⟨gb,cap,cur,rfl,_⟩
 ·exact⟨_,_,rfl,(fun h0=>by omega),fun x e=>by cases e⟩
 ·refine⟨_,_,rfl,fun h0=>?_,fun x e=>by cases e;exact(qq.lt h gb rfl).1⟩;have hc:=qq.cells h (g:=gb) rfl;have hlt:=(qq.lt h gb rfl).2;refine⟨gb,0,rfl,hlt,fun i hi=>?_⟩;have hi':i<l.length:=by omega
  have t:=hc i (Go.encZ l[i]) (by simp[hi']);rw[add_plain]at t;rw[t];simp[nth,hi']
def Ki(w:World)(b n:Nat)(p:Int->Bool):Prop:=
 ∃D:DataW Unit,w.ownsMap prog 2 (plainElem prog 2) b n D/\∀x,Maps.has D (.int .i64 x)=p x
theorem Bu.keys{m:Int->Option Int}(h:Bu w b n m):Ki w b n (fun x=>(m x).isSome):=by
 obtain⟨D,h1,_,h3⟩:=h;exact⟨D,h1,fun x=>(h3 x).1⟩
theorem Vt(b nn:Nat)(p:Int->Bool)(w:World)(hm:Ki w b nn p)(hnn:nn<=4194304):
 Calls prog 223 #[.func (.func 236) #[] #[.pointer (w)]] (w.alloc (.cells #[.map (some b)] 108)) fun e w'=>∃(a:Option Addr) (n cap:Nat) (h:Nat->Int),e= rT (.slice a n cap)/\n<=nn/\
  Bp w' a n h/\(∀x,(∃i,i<n/\h i=x)↔p x=true)/\(∀j,j<n->∀i,i<j->h i<h j)/\(∀i,i<n->(Lit.int .i64 (h i)).wf=true)/\(∀x,a=some x->w.heap.size<=x.block)/\Below w w w':=by
 obtain⟨D,hown,hall⟩:=hm;have hbl:=hown.lt;have hsz:=hown.size_le;have hseq:SeqGives Fence.wide 2 prog 236 #[.pointer (w)] Go.encZ (fun ss=>ss.Perm (intKeys D)) (Maps.size D) (w.alloc (.cells #[.map (some b)] 108)):=
  AnyZI.keys_gives (ρ:=Tryz.keysA_ren) {Tryz.keysA with} Fence.wide _ trivial rfl qQ w b nn D _ sI sI (by
   obtain⟨es,clock,hb,Ft,hs,hD⟩:=hown;exact⟨es,clock,(Below.heap_alloc _ _ b hbl).trans hb,Ft,hs,hD⟩)
 have cS:=AnyZI.sorted_in Tryz.sortedA Fence.wide 5 trivial trivial trivial trivial rfl qQ (Tryz.sortsA _) (enters_of func108 kR rfl) 236 #[.pointer (w)] trivial (enters_of func236 kR rfl) _ _ (by unfold maxLen;omega) qQ _ hseq;change CallsIn _ _ prog 223 _ _ _ at cS;refine((callsIn_wide (n:=5)).1 cS).mono ?_;rintro e w' ⟨v,ss,rfl,hp,hrow,_,hb⟩;obtain⟨hnd,hmem⟩:=Tv hown;have hq:(ss.mergeSort (fun x y=>decide (x<=y))).Perm (intKeys D):=(List.mergeSort_perm ss _).trans hp;obtain⟨hlen,a,c,rfl,hat,hnew⟩:=Bp.of_owns (B:=_) hrow;have hle:ss.length<=nn:=by
  have h1:=hp.length_eq;have h2:(intKeys D).length=Maps.size D:=by
   obtain⟨es,rfl,_⟩:=hown.keysOf;simp[intKeys,Maps.size]
  omega
 have tr:∀a b c:Int,decide (a<=b)=true->decide (b<=c)=true->decide (a<=c)=true:=fun a b c h1 h2=>by simp only[decide_eq_true_eq]at *;omega
 have tO:∀a b:Int,(decide (a<=b)||decide (b<=a))=true:=fun a b=>by simp only[Bool.or_eq_true,decide_eq_true_eq];omega
 have hsorted:=(List.pairwise_mergeSort (le:=fun x y=>decide (x<=y)) tr tO ss).imp (fun{a b} h=>by simpa using h:∀{a b:Int},_->a<=b);refine⟨a,ss.length,c,nth (ss.mergeSort (fun x y=>decide (x<=y))),rfl,hle,hat,fun x=>?_,?_,fun i hi=>?_,fun x e=>by have:=hnew x e;simp at this;omega,?_⟩
 ·rw[<-hall x,<-hmem x,<-hq.mem_iff];constructor
  ·rintro⟨i,hi,rfl⟩;have hi':i<(ss.mergeSort (fun x y=>decide (x<=y))).length:=qQ;simp only[nth,jN,jM hi',zF];exact qk hi'
  ·intro hx;obtain⟨i,hi,rfl⟩:=List.mem_iff_getElem.1 hx;exact⟨i,by omega,by simp only[nth,jN,jM hi,zF]⟩
 ·have:=Sb hsorted (hq.nodup_iff.2 hnd);rw[hlen]at this;exact this
 ·have hi':i<(ss.mergeSort (fun x y=>decide (x<=y))).length:=by omega
  refine intKeys_wf hown underlying2 _ (hq.mem_iff.1 ?_);simp only[nth,jN,jM hi',zF];exact qk hi'
 ·exact(Bg w _).trans (hb.mono sI)
theorem Xp(b nn:Nat)(m:Int->Option Int)(w:World)(hm:Bu w b nn m):
 Calls prog 221 #[.map (some b)] w fun e w'=>e= rT (.map (some w))/\Ki w' w nn (fun x=>(m x).isSome)/\Below w w w':=by
 obtain⟨D,hown,hall⟩:=hm.keys;have hcon:=AnyW.maps_Clone_owns Tryz.cloneA 2 (plainElem prog 2) b nn D w hown;change Calls prog 221 _ _ _ at hcon;refine hcon.mono ?_;rintro e w' ⟨rfl,h1,_,hB⟩;exact⟨rfl,⟨D,h1,hall⟩,hB⟩
theorem Yh{w':World}{b' n':Nat}{D D':DataW Unit}(h:w.ownsMap prog 2 (plainElem prog 2) b n D)(h':w'.ownsMap prog 2 (plainElem prog 2) b' n' D')(k:Lit):
 Maps.has (Lib.mergeD D D') k=(Maps.has D k||Maps.has D' k):=by
 obtain⟨es,rfl,_,hk⟩:=h'.entries Ip;exact has_foldPut k es D (h.tidy Ip).isMap hk
theorem Zo(bd bs nd ns:Nat)(p q:Int->Bool)(w:World)(hd:Ki w bd nd p)(hs:Ki w bs ns q)(hne:bd≠bs)(hroom:nd+ns<=4194304):
 Calls prog 222 #[.map (some bd),.map (some bs)] w fun e w'=>e= rT (.tuple #[])/\Ki w' bd (nd+ns) (fun x=>p x||q x)/\w.grownBy w' (some bd):=by
 obtain⟨D,hD,hp⟩:=hd;obtain⟨E,hE,hq⟩:=hs;have hsz:=hE.size_le;have hcon:=AnyX.maps_Copy Tryz.copyA Ip (plainElem prog 2) bd bs nd ns D E w hD hE hne (by unfold maxLen;omega);change Calls prog 222 _ _ _ at hcon;refine hcon.mono ?_;rintro e w' ⟨rfl,h1,_,hg⟩;exact⟨rfl,⟨_,h1.mono qQ,fun x=>by rw[Yh hD hE,hp,hq]⟩,hg⟩
theorem Ut(b1:Int)(c1 n1:Nat)(m1:Int->Option Int)(b2:Int)(c2 n2:Nat)(m2:Int->Option Int)(w:World)(h1:Bu w c1 n1 m1)(h2:Bu w c2 n2 m2)(hn:n1+n2<=4194304):
 Calls prog 206 #[.agg #[.int .i64 b1,.map (some c1)],.agg #[.int .i64 b2,.map (some c2)]] w fun e w'=>∃(a:Option Addr) (n cap:Nat) (h:Nat->Int),e= rT (.slice a n cap)/\n<=n1+n2/\
  Bp w' a n h/\(∀x,(∃i,i<n/\h i=x)↔((m1 x).isSome||(m2 x).isSome)=true)/\(∀j,j<n->∀i,i<j->h i<h j)/\(∀i,i<n->(Lit.int .i64 (h i)).wf=true)/\Below w w w':=by
 have hb0:=(Bg w (.cells #[.int .i64 b1,.map (some c1)] 277)).alloc sI (.cells #[.int .i64 b2,.map (some c2)] 277);have lt2:=h2.lt;have e1:=h1.below hb0;go_enter func206,ntmps206
 go_wp2_with fail
 refine(Xp _ _ _ _ e1).mono ?_;rintro e w1 ⟨rfl,k1,hb1⟩;obtain⟨q1,_⟩:=Ks hb1;have z1:w.heap.size+1+1<=w1.heap.size:=by have:=hb1.size;simpa using this
 have B1:Below w w w1:=hb0.trans (hb1.mono sO);have e2:=(h2.below B1).keys;simp at k1;go_wp2_with fail
 refine(Zo _ _ _ _ _ _ _ k1 e2 qQ hn).mono ?_;rintro e w2 ⟨rfl,k2,hg2⟩;have G2:Below (w.heap.size+1+1) w1 w2:=(Below.refl _ _).grown hg2 z1 (fun k e=>by cases e;exact Nat.le_refl _);have B2:Below w w w2:=B1.trans (G2.mono qQ);clear q1;go_wp2_with fail
 refine(ZW _ _).mono ?_;rintro e w3 ⟨rfl,rfl⟩;go_wp2_with fail
 refine(Vt _ _ _ _ k2 hn).mono ?_;rintro e w4 ⟨a,n,cap,h,rfl,hle,hat,hmem,hris,hwf,_,hb4⟩;go_wp2;go_ret;exact⟨a,n,cap,h,rfl,hle,hat,hmem,hris,hwf,B2.trans (hb4.mono B2.size)⟩
open Go.World renaming setCell→zX
open _root_.Array renaming getElem?_modify→kY
variable {W W':World}{P:Nat}{x y:Value}{a:Addr}
theorem Nk{f g:Nat->Int}{n:Nat}{x:Int}(h:(look f g n x).isSome=true):∃i,i<n/\f i=x:=by
 induction n with
 |zero=>simp[look]at h
 |succ n ih=>
  simp only[look]at h;by_cases e:f n=x
  ·exact⟨n,by omega,e⟩
  ·rw[if_neg e]at h;obtain⟨i,hi,e⟩:=ih h;exact⟨i,by omega,e⟩
theorem SV(base:Int)(c:Nat)(n:Nat)(f g:Nat->Int)(x:Int)(w:World)(hm:Bu w c n (look f g n))(hx:(Lit.int .i64 x).wf=true):
 Calls prog 207 #[.agg #[.int .i64 base,.map (some c)],.int .i64 x] w fun e w'=>e= .returned (.int .i64 (Fo base n f g x))/\Below w w w':=dO base c n (look f g n) x w hm hx
def Ck(W:World)(P:Nat)(x y:Value):Prop:=W.heap[P]? =some (.cells #[x,y] 277)
theorem Ck.new(W:World)(x y:Value):Ck (W.alloc (.cells #[x,y] 277)) W x y:=blk_alloc_new _ _
theorem Ck.lt(h:Ck W P x y):P<W.heap.size:=(Array.getElem?_eq_some_iff.1 h).1
theorem Ck.alloc(h:Ck W P x y)(o:Obj):Ck (W.alloc o) P x y:=(blk_alloc_lt _ _ _ h.lt).trans h
theorem Ck.drew(h:Ck W P x y):Ck W.drew P x y:=h
theorem Ck.below(h:Ck W P x y)(hb:Below W W W'):Ck W' P x y:=(hb.block P h.lt).trans h
theorem Ck.other(h:Ck W P x y)(hne:P≠a.block)(v:Value):Ck (W.setCell a v) P x y:=(blk_setCell_other _ _ _ _ hne).trans h
theorem Ck.set0(h:Ck W P x y)(v:Value):Ck (W.setCell ⟨P,0,none⟩ v) P v y:=by
 unfold Ck at *;simp[zX,kY,h]
theorem Ck.set1(h:Ck W P x y)(v:Value):Ck (W.setCell ⟨P,1,none⟩ v) P x v:=by
 unfold Ck at *;simp[zX,kY,h]
theorem Ck.cells(h:Ck W P x y):W.cell? ⟨P,0,none⟩=some x/\W.cell? ⟨P,1,none⟩=some y:=by
 unfold Ck at h;simp[World.cell?,h]
theorem Ck.new'(h:P=W.heap.size):Ck (W.alloc (.cells #[x,y] 277)) P x y:=by rw[h];exact Ck.new _ _ _
def GB(W:World)(P:Nat):Prop:=∃x y,Ck W P x y
theorem GB.new'(h:P=W.heap.size):GB (W.alloc (.cells #[x,y] 277)) P:=⟨x,y,Ck.new' h⟩
theorem GB.alloc(h:GB W P)(o:Obj):GB (W.alloc o) P:=by obtain⟨x,y,h⟩:=h;exact⟨x,y,h.alloc o⟩
theorem GB.drew(h:GB W P):GB W.drew P:=h
theorem GB.below(h:GB W P)(hb:Below W W W'):GB W' P:=by obtain⟨x,y,h⟩:=h;exact⟨x,y,h.below hb⟩
theorem GB.other(h:GB W P)(hne:P≠a.block)(v:Value):GB (W.setCell a v) P:=by obtain⟨x,y,h⟩:=h;exact⟨x,y,h.other hne v⟩
theorem Ck.set01(h:GB W P)(u v:Value):Ck ((W.setCell ⟨P,0,none⟩ u).setCell ⟨P,1,none⟩ v) P u v:=by obtain⟨x,y,h⟩:=h;exact(h.set0 u).set1 v
theorem gD{a b:Nat}(h:a+3<b):a<b/\a+1<b/\b≠a/\b≠a+1/\b+1≠a:=by omega
variable {W W':World}
structure BJ(W W':World):Prop where
 size:W.heap.size<=W'.heap.size
 same:∀(k:Nat) (o:Obj),W.heap[k]? =some o->(o.isCells=true∨o.isWalk=true)->W'.heap[k]? =some o
theorem BJ.refl(W:World):BJ W W:=⟨Nat.le_refl _,fun _ _ h _=>h⟩
theorem BJ.trans{A B C:World}(h:BJ A B)(k:BJ B C):BJ A C:=
 ⟨Nat.le_trans h.size k.size,fun i o hi ho=>k.same i o (h.same i o hi ho) ho⟩
theorem BJ.book{w:World}(W:World)(l:Nat)(o o':Obj)(_:w.heap.size<=l)(h:W.heap[l]? =some o)(hc:o.isCells=false)(hw:o.isWalk=false):BJ W (W.putObj l o'):=
 ⟨by simp,fun k o'' hk ho=>by
   by_cases e:k=l
   ·subst e;rw[h]at hk;cases hk;rw[hc,hw]at ho;simp at ho
   ·exact(World.putObj_heap_other e).trans hk⟩
theorem BJ.of_below(h:Below W W W'):BJ W W':=
 ⟨h.size,fun k _ hk _=>(h.block k (Array.getElem?_eq_some_iff.1 hk).1).trans hk⟩
theorem BJ.cell(h:BJ W W'){a:Addr}{v:Value}(hv:W.cell? a=some v):W'.cell? a=some v:=by
 have hv':=hv;unfold World.cell? at hv;cases ho:W.heap[a.block]? with
 |none=>simp[ho]at hv
 |some o=>
  have hc:o.isCells=true:=by cases o<;>simp_all[Obj.isCells]
  have:=h.same _ _ ho (.inl hc);exact(World.cell?_of_block (this.trans ho.symm)).trans hv'
theorem BJ.map(h:BJ W W'){b n:Nat}{m:Int->Option Int}(hm:Bu W b n m):Bu W' b n m:=by
 have hm':=hm;obtain⟨D,⟨es,clock,hb,F,hs,hD⟩,r⟩:=hm;exact hm'.of_block ((h.same b _ hb (.inr rfl)).trans hb.symm)
theorem Hk(h:Below W W W'):W.grownBy W' none:=⟨h.os,h.tape,h.output,h.size,fun k hk _=>h.block k hk⟩
open Go
open Go.Region renaming ready→jk,binds→kD,wanted→jW,noSelect→xU
open _root_.List renaming all_eq_true→kH
open Go renaming World→qM
section
variable {F:Fence}{n:Nat}{P:Program}{ops:Array Oper}{Q:Exit->Act->qM->Prop}{md:Region.Mode}{S:qM->Prop}{X:List Nat}
def Gf(P:Program)(ops:Array Oper)(S:qM->Prop)(o:Oper)(v:Value)(a:Act):Prop:=YieldsIf P ops S o v a/\∀w,o.about P w a.eval=none
theorem Gf.wpOpIn{i:Nat}{o:Oper}{v:Value}{a:Act}(hro:F.round=none)(hi:ops[i]? =some o)(hy:Gf P ops S o v a)
 {K:Act->qM->Prop}{w:qM}(hS:S w)(h:K (a.put o.dst v) w):wpOpIn F n P ops Q i K a w:=by
 unfold Go.wpOpIn;simp only[hi];have hab:∀f,o.about P w a.eval=some f->F.fn f:=fun f hf=>by rw[hy.2 w]at hf;cases hf
 rcases hy.1 with⟨hw,hv⟩|⟨hw,rfl⟩
 ·simp only[hw,if_true,Oper.wpIn,hro,Oper.semAt_none,hv w hS,Oper.uponIn];exact⟨hab,h⟩
 ·simp only[hw,Bool.false_eq_true,if_false];exact⟨hab,h⟩
theorem Gf.of_same{o:Oper}{v:Value}{a a':Act}(hy:Gf P ops S o v a)(he:execOp a'.eval o=execOp a.eval o)
 (hw:jW o (yielded ops a'.tmps)=jW o (yielded ops a.tmps))(hb:∀w,o.about P w a'.eval=o.about P w a.eval):Gf P ops S o v a':=
 ⟨hy.1.of_same he hw,fun w=>by rw[hb w];exact hy.2 w⟩
theorem Te{j:Nat}{oi oj:Oper}{v:Value}(hro:F.round=none)(hj:ops[j]? =some oj)(hap:oi.apart ops oj=true)
 (hsi:∀cs b,oi.op≠ .select cs b)(hsj:∀cs b,oj.op≠ .select cs b)
 (hQ:∀c a w,Q (.panic c) (a.put oi.dst v) w->Q (.panic c) a w){K:Act->qM->Prop}{a:Act}{w:qM}
 (hy:Gf P ops S oi v a)(h:wpOpIn F n P ops Q j K (a.put oi.dst v) w):
 wpOpIn F n P ops Q j (fun a' w'=>Gf P ops S oi v a'/\K (a'.put oi.dst v) w') a w:=by
 obtain⟨h1,h2,h3⟩:=Oper.apart_spec hap;have keep:∀(a:Act),Gf P ops S oi v a->∀u,Gf P ops S oi v (a.put oj.dst u):=fun a hy u=>
  hy.of_same (execOp_put oi hsi a oj.dst u h3) (wanted_put oi a oj.dst u h3) (fun w=>about_put oi w a oj.dst u h3)
 have keepD:∀d,Gf P ops S oi v {a with defers:=d::a.defers}:=fun d=>hy.of_same rfl rfl (fun _=>rfl);unfold wpOpIn at *;simp only[hj]at *;rw[wanted_put oj a oi.dst v h1,about_put oj w a oi.dst v h1]at h;split
 ·rename_i hw;simp only[hw,if_true]at h;unfold Oper.wpIn at *;rw[about_put oj w a oi.dst v h1]at h;refine⟨h.1,?_⟩;have h:=h.2;rw[hro,Oper.semAt_none,execOp_put oj hsj a oi.dst v h1]at h;rw[hro,Oper.semAt_none];generalize (execOp a.eval oj).run P w=r at *;cases r with
  |ok x w'=>
   cases x<;>simp only[Oper.uponIn]at h ⊢;case value u=>exact⟨keep a hy u,by rw[<-Act.put_comm a v u h2];exact h⟩
   case skip=>exact⟨keep a hy _,by rw[<-Act.put_comm a v undef h2];exact h⟩
   case defer d=>
    refine⟨keep _ (keepD d) _,?_⟩;rw[<-Act.put_comm _ v undef h2,<-Act.put_defers];exact h
   case enter f args=>
    refine⟨h.1,CallsIn.mono h.2 fun e w'' he=>?_⟩;cases e with
    |returned u=>exact⟨keep a hy u,by rw[<-Act.put_comm a v u h2];exact he⟩
    |panicked c=>exact hQ _ _ _ he
    |outgrown=>exact he
   case row row args=>exact⟨h.1,RowsIn.mono h.2 fun u w'' he=>⟨keep a hy u,by rw[<-Act.put_comm a v u h2];exact he⟩⟩
   case round l f tmps assign body=>
    refine⟨h.1,RoundIn.mono h.2 fun e w'' he=>?_⟩;cases e with
    |returned u=>exact⟨keep a hy u,by rw[<-Act.put_comm a v u h2];exact he⟩
    |panicked c=>exact hQ _ _ _ he
    |outgrown=>exact he
  |halt x w'=>
   cases x<;>simp only[Oper.uponIn]at h ⊢;case panic u=>exact hQ _ _ _ h
 ·rename_i hw;simp only[hw]at h;exact⟨h.1,keep a hy _,by rw[<-Act.put_comm a v undef h2];exact h.2⟩
def AnyF(F:Fence)(n:Nat)(P:Program)(md:Region.Mode)(ops:Array Oper)(Q:Exit->Act->qM->Prop)(S:qM->Prop)(X:List Nat)(f:Nat)(L:Array Bool)(a:Act)(w:qM):Prop:=
 match f with
 |0=>jk md ops L=[]/\Q .normal a w
 |f+1=>(jk md ops L=[]->Q .normal a w)/\
  ∀i∈jk md ops L,wpOpIn F n P ops Q i (fun a' w'=>(X.contains i=false->S w')/\AnyF F n P md ops Q S X f (L.setIfInBounds i true) a' w') a w
theorem AnyF.any{f:Nat}:∀{L:Array Bool}{a:Act}{w:qM},AnyF F n P md ops Q S X f L a w->wpAnyIn F n P md ops Q f L a w:=by
 induction f with
 |zero=>intro L a w h;exact h
 |succ f ih=>intro L a w h;exact⟨h.1,fun i hi=>wpOpIn_mono (fun _ _ k=>ih k.2) (h.2 i hi)⟩
def J5(md:Region.Mode)(ops:Array Oper)(L:Array Bool):Prop:=
 ∀k o,ops[k]? =some o->L.getD k false=true->∀e∈o.after,kD md e=true->L.getD e.on false=true
def leads(md:Region.Mode)(ops:Array Oper):Nat->Nat->Nat->Bool
 |0,_,_=>false
 |f+1,x,i=>match ops[x]? with
  |some o=>o.after.any (fun e=>kD md e&&(e.on==i||leads md ops f e.on i))
  |none=>false
theorem Sx{L:Array Bool}(hc:J5 md ops L){i:Nat}(f:Nat):∀x,leads md ops f x i=true->(∀o,ops[x]? =some o->∀e∈o.after,kD md e=true->L.getD e.on false=true)->L.getD i false=true:=by
 induction f with
 |zero=>intro x h _;simp[leads]at h
 |succ f ih=>
  intro x h hx;unfold leads at h;cases ho:ops[x]? with
  |none=>rw[ho]at h;simp at h
  |some o=>
   rw[ho]at h;dsimp only at h;obtain⟨e,he,hb⟩:=Array.any_eq_true'.1 h;simp only[Bool.and_eq_true,Bool.or_eq_true,beq_iff_eq]at hb;have hl:=hx o ho e he hb.1;rcases hb.2 with q|q
   ·rw[<-q];exact hl
   ·exact ih e.on q (fun o' ho' e' he' hb'=>hc e.on o' ho' hl e' he' hb')
theorem J5.set{L:Array Bool}(hc:J5 md ops L){j:Nat}(hj:j∈jk md ops L):J5 md ops (L.setIfInBounds j true):=by
 intro k o ho hk e he hb;obtain⟨hun,oj,hoj,hall⟩:=mem_ready.1 hj;by_cases q:j=k
 ·subst q;rw[hoj]at ho;cases ho;exact getD_set_true (hall e he hb)
 ·rw[getD_set_ne false q]at hk;exact getD_set_true (hc k o ho hk e he hb)
theorem Nt{i:Nat}{L:Array Bool}(h:i∈jk md ops L):L.getD i false=false:=by
 have h0:=(mem_ready.1 h).1;by_cases hl:i<L.size
 ·simp[hl]at h0 ⊢;exact h0
 ·simp[Array.getElem?_eq_none (Nat.le_of_not_lt hl)]
theorem AnyF.takes{i:Nat}{oi:Oper}{v:Value}(hro:F.round=none)(hi:ops[i]? =some oi)(hs:xU ops=true)
 (hX:∀x,X.contains x=true->leads md ops ops.size x i=true)
 (hQ:∀c a w,Q (.panic c) (a.put oi.dst v) w->Q (.panic c) a w)(f:Nat):∀{L:Array Bool}{a:Act}{w:qM},J5 md ops L->
 (∀j oj,ops[j]? =some oj->j≠i->L.getD j true=false->(∀e∈oj.after,kD md e=true->e.on≠i)->oi.apart ops oj=true)->
 i∈jk md ops L->Gf P ops S oi v a->S w->AnyF F n P md ops Q S X f (L.setIfInBounds i true) (a.put oi.dst v) w->AnyF F n P md ops Q S X (f+1) L a w:=by
 have sel:=Region.noSelect_spec hs;induction f with
 |zero=>
  intro L a w _ _ hr hy hS H;refine⟨fun e=>absurd hr (by rw[e];simp),fun j hj=>?_⟩;by_cases e:j=i
  ·subst e;exact hy.wpOpIn hro hi hS ⟨fun _=>hS,H⟩
  ·have:=ready_mono hj e;rw[H.1]at this;simp at this
 |succ f ih=>
  intro L a w hcl hfree hr hy hS H;refine⟨fun e=>absurd hr (by rw[e];simp),fun j hj=>?_⟩;by_cases e:j=i
  ·subst e;exact hy.wpOpIn hro hi hS ⟨fun _=>hS,H⟩
  ·obtain⟨hun,oj,hoj,hall⟩:=mem_ready.1 hj;have un:=Nt hr;have apart:∀x∈oj.after,kD md x=true->x.on≠i:=fun x hx hb hq=>by
    have:=hall x hx hb;rw[hq,un]at this;cases this
   have hjX:X.contains j=false:=by
    cases hc:X.contains j
    ·rfl
    ·have:=Sx hcl ops.size j (hX j hc) (fun o ho e he hb=>by rw[hoj]at ho;cases ho;exact hall e he hb);rw[un]at this;cases this
   refine wpOpIn_mono (fun a' w' k=>⟨fun _=>k.2.1 hjX,?_⟩) (Te hro hoj (hfree j oj hoj e hun apart) (fun cs b=>sel i oi cs b hi) (fun cs b=>sel j oj cs b hoj) hQ hy (H.2 j (ready_mono hj e)));refine ih (hcl.set hj) (fun k ok hk hki hkl hkn=>hfree k ok hk hki ?_ hkn) (ready_mono hr (Ne.symm e)) k.1 (k.2.1 hjX) ?_
   ·by_cases q:j=k
    ·subst q;exact hun
    ·rw[getD_set_ne true q]at hkl;exact hkl
   ·rw[Array.setIfInBounds_comm _ _ e];exact k.2.2
def N6(md:Region.Mode)(ops:Array Oper)(L:Array Bool):Bool:=
 (List.range ops.size).all fun k=> !(L.getD k false)||match ops[k]? with
   |some o=>o.after.all (fun e=> !(kD md e)||L.getD e.on false)
   |none=>true
theorem UN{L:Array Bool}(h:N6 md ops L=true):J5 md ops L:=by
 intro k o ho hk e he hb;unfold N6 at h;rw[kH]at h;have:=h k (List.mem_range.2 (Array.getElem?_eq_some_iff.1 ho).1);rw[hk,ho]at this;simp only[Bool.not_true,Bool.false_or]at this;have:=(Array.all_eq_true'.1 this) e he;rw[hb]at this;simpa using this
theorem AnyF.takeD{i d:Nat}{oi:Oper}(v:Value){f:Nat}{L:Array Bool}{a:Act}{w:qM}(hro:F.round=none)(hi:ops[i]? =some oi)(hd:oi.dst=some d)(hs:xU ops=true)(hf:Region.free md ops L i=true)
 (hr:(jk md ops L).contains i=true)(hcl:N6 md ops L=true)(hX:X.all (fun x=>leads md ops ops.size x i)=true)(hQ:∀c a w,Q (.panic c) (a.put (some d) v) w->Q (.panic c) a w)(hS:S w)
 (hy:YieldsIf P ops S oi v a)(hab:∀w,oi.about P w a.eval=none)(h:AnyF F n P md ops Q S X f (L.setIfInBounds i true) (a.put (some d) v) w):AnyF F n P md ops Q S X (f+1) L a w:=
 AnyF.takes (v:=v) hro hi hs (fun x hx=>kH.1 hX x (by simpa using hx)) (by rw[hd];exact hQ) f (UN hcl) (Region.free_spec hi hf) (by simpa using hr) ⟨hy,hab⟩ hS (by rw[hd];exact h)
theorem AnyF.skip{i d:Nat}{oi:Oper}{f:Nat}{L:Array Bool}{a:Act}{w:qM}(hro:F.round=none)(hi:ops[i]? =some oi)(hd:oi.dst=some d)(hs:xU ops=true)(hf:Region.free md ops L i=true)
 (hr:(jk md ops L).contains i=true)(hcl:N6 md ops L=true)(hX:X.all (fun x=>leads md ops ops.size x i)=true)(hQ:∀c a w,Q (.panic c) (a.put (some d) undef) w->Q (.panic c) a w)(hS:S w)
 (hun:jW oi (yielded ops a.tmps)=false)(hab:∀w,oi.about P w a.eval=none)(h:AnyF F n P md ops Q S X f (L.setIfInBounds i true) (a.put (some d) undef) w):AnyF F n P md ops Q S X (f+1) L a w:=
 AnyF.takeD undef hro hi hd hs hf hr hcl hX hQ hS (Or.inr ⟨hun,rfl⟩) hab h
theorem AnyF.one{i:Nat}{o:Oper}{f:Nat}{L:Array Bool}{a:Act}{w:qM}(hi:ops[i]? =some o)(hr:jk md ops L=[i])
 (h:∀K':Act->qM->Prop,Hid (∀a w,(X.contains i=false->S w)->AnyF F n P md ops Q S X f (L.setIfInBounds i true) a w->K' a w)->if jW o (yielded ops a.tmps)=true then Oper.wpIn F n P o a w K' Q else(∀f,o.about P w a.eval=some f->F.fn f)/\K' (a.put o.dst undef) w):AnyF F n P md ops Q S X (f+1) L a w:=
 ⟨fun e=>absurd (hr.symm.trans e) sI,fun j hj=>by
   rw[hr]at hj;obtain rfl:j=i:=by simpa using hj
   exact wpOpIn_step hi (fun K' hK=>h K' (fun a w h1 h2=>hK a w ⟨h1,h2⟩))⟩
theorem AnyF.done{f:Nat}{L:Array Bool}{a:Act}{w:qM}(hr:jk md ops L=[])(h:Q .normal a w):AnyF F n P md ops Q S X f L a w:=by
 cases f with
 |zero=>exact⟨hr,h⟩
 |succ f=>exact⟨fun _=>h,fun i hi=>by rw[hr]at hi;simp at hi⟩
theorem AnyF.region{id:Nat}{a:Act}{w:qM}(S:qM->Prop)(X:List Nat)(hm:P.follows .mixedOrders=true)(h:AnyF F n P .any ops Q S X ops.size (Array.replicate ops.size false) a w.drew):(Code.region id ops true).wpIn F n P Q a w:=
 wpIn_region_any hm h.any
end
open Go.Value renaming slice→qV
open _root_.List renaming set→qF,mem_append→jq
open _root_.Or renaming inl→kz
open _root_.Nat renaming lt_of_lt_of_le→qv
open Go.RowKit renaming Below→qN
attribute [local go_sem] Oper.semAt_some
theorem fJ{p:Prop}(h:p):Hid p:=h
def Ir(ba:Int)(na:Nat)(fa ga:Nat->Int)(bb:Int)(nb:Nat)(fb gb:Nat->Int)(x:Int):Bool:=
 ((look fa ga na x).isSome||(look fb gb nb x).isSome)&&decide (Fo bb nb fb gb x<Fo ba na fa ga x)
structure Ke(W:World)(A B:Nat)(ba:Int)(aa:Option Addr)(na ka:Nat)(fa ga:Nat->Int)(bb:Int)(ab:Option Addr)(nb kb:Nat)(fb gb:Nat->Int):Prop where
 ltA:A<W.heap.size
 ltB:B<W.heap.size
 a0:W.cell? ⟨A,0,none⟩=some (.int .i64 ba)
 a1:W.cell? ⟨A,1,none⟩=some (qV aa na ka)
 b0:W.cell? ⟨B,0,none⟩=some (.int .i64 bb)
 b1:W.cell? ⟨B,1,none⟩=some (qV ab nb kb)
 ca:Bd W aa na fa ga
 cb:Bd W ab nb fb gb
theorem Ke.below{W W':World}{A B:Nat}{ba:Int}{aa:Option Addr}{na ka:Nat}{fa ga:Nat->Int}{bb:Int}{ab:Option Addr}{nb kb:Nat}{fb gb:Nat->Int}
 (h:Ke W A B ba aa na ka fa ga bb ab nb kb fb gb)(hb:qN W W W'):Ke W' A B ba aa na ka fa ga bb ab nb kb fb gb:=
 ⟨qv h.ltA hb.size,qv h.ltB hb.size,(hb.cell (p:=⟨A,0,none⟩) h.ltA).trans h.a0,(hb.cell (p:=⟨A,1,none⟩) h.ltA).trans h.a1,
   (hb.cell (p:=⟨B,0,none⟩) h.ltB).trans h.b0,(hb.cell (p:=⟨B,1,none⟩) h.ltB).trans h.b1,h.ca.below hb,h.cb.below hb⟩
theorem Qb(l A B:Nat)(ba:Int)(aa:Option Addr)(na ka:Nat)(fa ga:Nat->Int)(bb:Int)(ab:Option Addr)(nb kb:Nat)(fb gb:Nat->Int)(J Jx:List Int->World->Prop)(w:World)
 (ma:na<=1048576)(mb:nb<=1048576)(hwa:∀i,i<na->(Lit.int .i64 (fa i)).wf=true/\(Lit.int .i64 (ga i)).wf=true)(hwb:∀i,i<nb->(Lit.int .i64 (fb i)).wf=true/\(Lit.int .i64 (gb i)).wf=true)
 (hL:Ke w A B ba aa na ka fa ga bb ab nb kb fb gb)(hJ:AbidesFrom w J)
 (hY:∀pre x W1,J pre W1->pre.length<na+nb->YieldAt Fence.wide 2 prog l #[.int .i64 x] W1 fun e W'=>
   (e= rT (.bool true)/\J (pre++[x]) W'/\BJ W1 W')∨(e= rT (.bool false)/\Jx (pre++[x]) W'))(h0:J [] w):
 Calls prog 217 #[.func (.yield l) #[] #[],.pointer A,.pointer B] w fun e W'=>(∃v,e= rT v)/\
  ((∃xs,(∀x,x∈xs↔Ir ba na fa ga bb nb fb gb x=true)/\J xs W')∨(∃pre,(∀x,x∈pre->Ir ba na fa ga bb nb fb gb x=true)/\Jx pre W')):=by
 have HWA:Hid (∀i,i<na->(Lit.int .i64 (fa i)).wf=true/\(Lit.int .i64 (ga i)).wf=true):=hwa;have HWB:Hid (∀i,i<nb->(Lit.int .i64 (fb i)).wf=true/\(Lit.int .i64 (gb i)).wf=true):=hwb;clear hwa hwb;have HJ:Hid (∀W',qN w w W'->J [] W'):=fun W' hb=>hJ [] w W' none h0 (Hk hb) (fun r e=>by cases e);have HL:Hid (Ke w A B ba aa na ka fa ga bb ab nb kb fb gb):=hL;obtain⟨lA,lB,x1,x2,x3,x4,hca,hcb⟩:=hL;have n5:Na #[.agg #[.int .i64 ba,qV aa na ka]]:=⟨⟩;have levA:∀W,qN w w W->Calls prog 205 n5 W fun e w'=>∃c,e= rT (.agg #[.int .i64 ba,.map (some c)])/\W.heap.size<=c/\Bu w' c na (look fa ga na)/\(∀b o,b<W.heap.size->w'.cell? ⟨b,o,none⟩=W.cell? ⟨b,o,none⟩)/\(∀b o,b<W.heap.size->w'.frozen? ⟨b,o,none⟩=W.frozen? ⟨b,o,none⟩)/\(∀V:World,V.heap.size<=W.heap.size->V.heap.size+3<w'.heap.size)/\qN w w w'/\qN W W w'/\(w'.heap.size≠A/\w'.heap.size≠B/\w'.heap.size+1≠A/\w'.heap.size+1≠B)/\(w.heap.size<w'.heap.size/\w.heap.size+1<w'.heap.size/\w'.heap.size≠w.heap.size/\w'.heap.size≠w.heap.size+1/\w'.heap.size+1≠w.heap.size)/\w'.cell? ⟨A,0,none⟩=some (.int .i64 ba)/\w'.cell? ⟨A,1,none⟩=some (qV aa na ka)/\w'.cell? ⟨B,0,none⟩=some (.int .i64 bb)/\w'.cell? ⟨B,1,none⟩=some (qV ab nb kb):=fun W hW=>by
  refine(LR ba aa na ka fa ga W ma (hca.below hW) HWA).mono ?_;rintro e w' ⟨c,rfl,hl,hm,hz,hb⟩;have hW':=hW.trans (hb.mono hW.size);obtain⟨q,p⟩:=Ks hb;have hs:=hW'.size;have hs0:=hW.size;exact⟨c,rfl,hl,hm,q,p,fun V hV=>by omega,hW',hb,by omega,gD qQ,(hW'.cell (p:=⟨_,_,none⟩) lA).trans x1,(hW'.cell (p:=⟨_,_,none⟩) lA).trans x2,(hW'.cell (p:=⟨_,_,none⟩) lB).trans x3,(hW'.cell (p:=⟨_,_,none⟩) lB).trans x4⟩
 have HlevA:Hid (∀W,qN w w W->Calls prog 205 n5 W fun e w'=>∃c,e= rT (.agg #[.int .i64 ba,.map (some c)])/\W.heap.size<=c/\Bu w' c na (look fa ga na)/\(∀b o,b<W.heap.size->w'.cell? ⟨b,o,none⟩=W.cell? ⟨b,o,none⟩)/\(∀b o,b<W.heap.size->w'.frozen? ⟨b,o,none⟩=W.frozen? ⟨b,o,none⟩)/\(∀V:World,V.heap.size<=W.heap.size->V.heap.size+3<w'.heap.size)/\qN w w w'/\qN W W w'/\(w'.heap.size≠A/\w'.heap.size≠B/\w'.heap.size+1≠A/\w'.heap.size+1≠B)/\(w.heap.size<w'.heap.size/\w.heap.size+1<w'.heap.size/\w'.heap.size≠w.heap.size/\w'.heap.size≠w.heap.size+1/\w'.heap.size+1≠w.heap.size)/\w'.cell? ⟨A,0,none⟩=some (.int .i64 ba)/\w'.cell? ⟨A,1,none⟩=some (qV aa na ka)/\w'.cell? ⟨B,0,none⟩=some (.int .i64 bb)/\w'.cell? ⟨B,1,none⟩=some (qV ab nb kb)):=levA;clear levA;have n6:Na #[.agg #[.int .i64 bb,qV ab nb kb]]:=⟨⟩;have levB:∀W,qN w w W->Calls prog 205 n6 W fun e w'=>∃c,e= rT (.agg #[.int .i64 bb,.map (some c)])/\W.heap.size<=c/\Bu w' c nb (look fb gb nb)/\(∀b o,b<W.heap.size->w'.cell? ⟨b,o,none⟩=W.cell? ⟨b,o,none⟩)/\(∀b o,b<W.heap.size->w'.frozen? ⟨b,o,none⟩=W.frozen? ⟨b,o,none⟩)/\(∀V:World,V.heap.size<=W.heap.size->V.heap.size+3<w'.heap.size)/\qN w w w'/\qN W W w'/\(w'.heap.size≠A/\w'.heap.size≠B/\w'.heap.size+1≠A/\w'.heap.size+1≠B)/\(w.heap.size<w'.heap.size/\w.heap.size+1<w'.heap.size/\w'.heap.size≠w.heap.size/\w'.heap.size≠w.heap.size+1/\w'.heap.size+1≠w.heap.size)/\w'.cell? ⟨A,0,none⟩=some (.int .i64 ba)/\w'.cell? ⟨A,1,none⟩=some (qV aa na ka)/\w'.cell? ⟨B,0,none⟩=some (.int .i64 bb)/\w'.cell? ⟨B,1,none⟩=some (qV ab nb kb):=fun W hW=>by
  refine(LR bb ab nb kb fb gb W mb (hcb.below hW) HWB).mono ?_;rintro e w' ⟨c,rfl,hl,hm,hz,hb⟩;have hW':=hW.trans (hb.mono hW.size);obtain⟨q,p⟩:=Ks hb;have hs:=hW'.size;have hs0:=hW.size;exact⟨c,rfl,hl,hm,q,p,fun V hV=>by omega,hW',hb,by omega,gD qQ,(hW'.cell (p:=⟨_,_,none⟩) lA).trans x1,(hW'.cell (p:=⟨_,_,none⟩) lA).trans x2,(hW'.cell (p:=⟨_,_,none⟩) lB).trans x3,(hW'.cell (p:=⟨_,_,none⟩) lB).trans x4⟩
 have HlevB:Hid (∀W,qN w w W->Calls prog 205 n6 W fun e w'=>∃c,e= rT (.agg #[.int .i64 bb,.map (some c)])/\W.heap.size<=c/\Bu w' c nb (look fb gb nb)/\(∀b o,b<W.heap.size->w'.cell? ⟨b,o,none⟩=W.cell? ⟨b,o,none⟩)/\(∀b o,b<W.heap.size->w'.frozen? ⟨b,o,none⟩=W.frozen? ⟨b,o,none⟩)/\(∀V:World,V.heap.size<=W.heap.size->V.heap.size+3<w'.heap.size)/\qN w w w'/\qN W W w'/\(w'.heap.size≠A/\w'.heap.size≠B/\w'.heap.size+1≠A/\w'.heap.size+1≠B)/\(w.heap.size<w'.heap.size/\w.heap.size+1<w'.heap.size/\w'.heap.size≠w.heap.size/\w'.heap.size≠w.heap.size+1/\w'.heap.size+1≠w.heap.size)/\w'.cell? ⟨A,0,none⟩=some (.int .i64 ba)/\w'.cell? ⟨A,1,none⟩=some (qV aa na ka)/\w'.cell? ⟨B,0,none⟩=some (.int .i64 bb)/\w'.cell? ⟨B,1,none⟩=some (qV ab nb kb)):=levB;clear levB;have HE00:Hid (qN w w w.drew):=(Below.refl _ _).drew;have HE0:Hid (∀o,qN w w (w.alloc o).drew):=fun o=>((Below.refl _ _).alloc nr o).drew;have HE000:Hid (∀o o',qN w w ((w.alloc o).alloc o').drew):=fun o o'=>(((Below.refl _ _).alloc nr o).alloc sI o').drew;have HY:=fJ hY;have HJ0:=fJ hJ;clear hY hJ h0 hca hcb;have n1:w.heap.size≠A:=by omega
 have n2:w.heap.size≠B:=by omega
 have n3:w.heap.size+1≠A:=by omega
 have n4:w.heap.size+1≠B:=by omega
 go_enter func217,ntmps217
 go_upto_region 0 with fail
 go_cut[4,5] (fun p q wc=>∃P Q c d:Nat,p= .pointer P/\q= .pointer Q/\Ck wc P (.int .i64 ba) (.map (some c))/\Ck wc Q (.int .i64 bb) (.map (some d))/\Bu wc c na (look fa ga na)/\Bu wc d nb (look fb gb nb)/\qN w w wc)
 case first=>
  go_region_held3(fun w'=>w'.cell? ⟨A,0,none⟩=some (.int .i64 ba)/\w'.cell? ⟨A,1,none⟩=some (qV aa na ka)/\w'.cell? ⟨B,0,none⟩=some (.int .i64 bb)/\w'.cell? ⟨B,1,none⟩=some (qV ab nb kb)) (first|go_keep|(simp[*]))
   (first
     |(go_at_call 205;have hb1':=hb1;clear hb1';refine(HlevB _ ?hB).mono ?_;(case hB=>first|exact E1|exact E1.alloc E1.size _|exact(E1.alloc E1.size _).alloc (E1.alloc E1.size _).size _);rintro e v2 ⟨c2,rfl,hl2,m2,qb,pb,rb,E2,hb2,⟨s1,s2,s3,s4⟩,⟨g1,g2,g3,g4,g5⟩,y1,y2,y3,y4⟩;have rb':=rb v1 (by simp;try omega);obtain⟨f1,f2,f3,f4,f5⟩:=gD rb')
     |(go_at_call 205;refine(HlevA _ ?hB).mono ?_;(case hB=>first|exact HE00.out|exact HE0.out _|exact HE000.out _ _);rintro e v1 ⟨c1,rfl,hl1,m1,qa,pa,ra,E1,hb1,⟨r1,r2,r3,r4⟩,⟨d1,d2,d3,d4,d5⟩,p1,p2,p3,p4⟩))
  all_goals
   have l1:=m1.lt;have l2:=m2.lt;try simp at hl1
   try simp at hl2
   clear qa pa qb pb HlevA HlevB;have E3:qN w w v2:=E2;go_wp2_with fail
   go_meet;case rel=>
    refine⟨_,_,c1,c2,rfl,rfl,?_,?_,?_,?_,?_⟩
    ·repeat(first|(with_reducible refine Ck.new' ?_;simp;done)|with_reducible refine Ck.set01 ?_ _ _|(with_reducible refine Ck.other ?_ ?_ _;rotate_left;(dsimp only;omega))|with_reducible refine Ck.alloc ?_ _)
     all_goals repeat(first|(with_reducible refine GB.new' ?_;simp;done)|(with_reducible refine GB.other ?_ ?_ _;rotate_left;(dsimp only;omega))|with_reducible refine GB.alloc ?_ _|with_reducible refine GB.drew ?_|with_reducible refine GB.below ?_ hb2|with_reducible refine GB.below ?_ hb1)
    ·repeat(first|(with_reducible refine Ck.new' ?_;simp;done)|with_reducible refine Ck.set01 ?_ _ _|(with_reducible refine Ck.other ?_ ?_ _;rotate_left;(dsimp only;omega))|with_reducible refine Ck.alloc ?_ _)
     all_goals repeat(first|(with_reducible refine GB.new' ?_;simp;done)|(with_reducible refine GB.other ?_ ?_ _;rotate_left;(dsimp only;omega))|with_reducible refine GB.alloc ?_ _|with_reducible refine GB.drew ?_|with_reducible refine GB.below ?_ hb2|with_reducible refine GB.below ?_ hb1)
    ·repeat(first|with_reducible exact m1|(with_reducible refine Bu.setCell ?_ ?_ _;rotate_left;(dsimp only;omega))|with_reducible refine Bu.alloc ?_ _|with_reducible refine Bu.below ?_ hb2)
    ·repeat(first|with_reducible exact m2|(with_reducible refine Bu.setCell ?_ ?_ _;rotate_left;(dsimp only;omega))|with_reducible refine Bu.alloc ?_ _)
    ·repeat(first|with_reducible exact E3|(with_reducible refine Below.setCell ?_ ?_ _;rotate_left;(dsimp only;omega))|(with_reducible refine Below.alloc ?_ ?_ _;rotate_left;(first|omega|(simp;omega))))
 case rest=>
  obtain⟨P,Q,c,d,rfl,rfl,u1,u2,m1,m2,Bc⟩:=hcut;obtain⟨a1,a2⟩:=u1.cells;obtain⟨a3,a4⟩:=u2.cells;have lP:=u1.lt;have lQ:=u2.lt;clear u1 u2 n1 n2 n3 n4 x1 x2 x3 x4 HE00 HE0 HE000 HlevA HlevB HWA HWB;rename_i QQ KK hKK;refine hKK _ _ ((wpIn_wide (n:=3)).1 ?_);clear hKK KK;have hmix:prog.follows .mixedOrders=true:=by kernel_rfl
  gi_wp2_with fail;refine⟨trivial,?_⟩;refine(callsIn_wide.2 (Ut _ _ _ _ _ _ _ _ _ m1 m2 qQ)).mono ?_;rintro e w3 ⟨a,n,cap,h,rfl,hle,hat,hmem,hris,hwf,hb3⟩;have b1:=(hb3.cell (p:=⟨P,0,none⟩) lP).trans a1;have b2:=(hb3.cell (p:=⟨P,1,none⟩) lP).trans a2;have b3:=(hb3.cell (p:=⟨Q,0,none⟩) lQ).trans a3;have b4:=(hb3.cell (p:=⟨Q,1,none⟩) lQ).trans a4;have M1:=m1.below hb3;have M2:=m2.below hb3;have lP3:P<w3.heap.size:=qv lP hb3.size;have lQ3:Q<w3.heap.size:=qv lQ hb3.size;have J3:Hid (J [] w3):=HJ.out _ (Bc.trans (hb3.mono Bc.size));have HM:Hid (∀x,(∃i,i<n/\h i=x)↔((look fa ga na x).isSome||(look fb gb nb x).isSome)=true):=hmem;have HWF:Hid (∀i,i<n->(Lit.int .i64 (h i)).wf=true):=hwf;have HR:Hid (∀j,j<n->∀i,i<j->h i<h j):=hris;clear a1 a2 a3 a4 m1 m2 hmem hwf hris lP lQ hb3 Bc HJ HL lA lB;gi_wp2;gi_loopw [16] (fun i wr=>∃(k:Nat) (pre:List Int),k<=n/\i= .int .i64 k/\pre.length<=k/\(∀x,x∈pre↔(∃j,j<k/\h j=x)/\Fo bb nb fb gb x<Fo ba na fa ga x)/\J pre wr/\BJ w3 wr) (fun i _=>n-(intOf i).toNat);case atStart=>exact⟨0,[],Nat.zero_le _,rfl,Nat.le_refl _,fun x=>by simp,J3,BJ.refl _⟩
  case round=>
   obtain⟨k,pre,hk,rfl,hpl,hpre,hJp,hK⟩:=hrel;have HP:Hid (∀x,x∈pre↔(∃j,j<k/\h j=x)/\Fo bb nb fb gb x<Fo ba na fa ga x):=hpre;have HJp:Hid (J pre wr):=hJp;clear hpre hJp;by_cases hlt':k<n
   ·obtain⟨b,off,rfl,hlt,hcc⟩:=hat qQ;have r5:=hK.cell (hcc k hlt');have r1:=hK.cell b1;have r2:=hK.cell b2;have r3:=hK.cell b3;have r4:=hK.cell b4;have lPr:P<wr.heap.size:=qv lP3 hK.size;have lQr:Q<wr.heap.size:=qv lQ3 hK.size;have N1:Bu wr.drew c na (look fa ga na):=(hK.map M1).below (Below.refl _ _).drew;have N2:Bu wr.drew d nb (look fb gb nb):=(hK.map M2).below (Below.refl _ _).drew;have HWX:Hid ((Lit.int .i64 (h k)).wf=true):=HWF.out k hlt';clear hcc hat b1 b2 b3 b4 M1 M2;by_cases t5:Fo bb nb fb gb (h k)<Fo ba na fa ga (h k)
    ·have hyk:Hid (∀W,qN wr wr W->YieldAt Fence.wide 2 prog l #[.int .i64 (h k)] W fun e W'=>
      (e= rT (.bool true)/\J (pre++[h k]) W'/\BJ W W')∨(e= rT (.bool false)/\Jx (pre++[h k]) W')):=fun W hb=>
      HY pre (h k) W (HJ0 pre wr W none HJp (Hk hb) (fun r e=>by cases e)) qQ
     gi_wp2_with fail;refine AnyF.region (fun w'=>w'.cell? ⟨P,0,none⟩=some (.int .i64 ba)/\w'.cell? ⟨P,1,none⟩=some (.map (some c))/\w'.cell? ⟨Q,0,none⟩=some (.int .i64 bb)/\w'.cell? ⟨Q,1,none⟩=some (.map (some d))) [10,11,12] hmix ?_;have S0:wr.drew.cell? ⟨P,0,none⟩=some (.int .i64 ba)/\wr.drew.cell? ⟨P,1,none⟩=some (.map (some c))/\wr.drew.cell? ⟨Q,0,none⟩=some (.int .i64 bb)/\wr.drew.cell? ⟨Q,1,none⟩=some (.map (some d)):=⟨r1,r2,r3,r4⟩;refine AnyF.takeD (i:=0) (d:=20) (.agg #[.int .i64 ba,.map (some c)]) rfl rfl rfl kR kR kR kR kR (fun _ _ _ h=>h) S0 (kz ⟨by rfl,fun w' h=>(by dsimp only at h;go_simp)⟩) (fun _=>by rfl) ?_;simp only[ap,qF];refine AnyF.takeD (i:=1) (d:=21) (.int .i64 (h k)) rfl rfl rfl kR kR kR kR kR (fun _ _ _ h=>h) S0 (kz ⟨by rfl,fun w' h=>(by dsimp only at h;go_simp)⟩) (fun _=>by rfl) ?_;simp only[ap,qF];refine AnyF.takeD (i:=3) (d:=23) (.agg #[.int .i64 bb,.map (some d)]) rfl rfl rfl kR kR kR kR kR (fun _ _ _ h=>h) S0 (kz ⟨by rfl,fun w' h=>(by dsimp only at h;go_simp)⟩) (fun _=>by rfl) ?_;simp only[ap,qF];refine AnyF.takeD (i:=4) (d:=24) (.int .i64 (h k)) rfl rfl rfl kR kR kR kR kR (fun _ _ _ h=>h) S0 (kz ⟨by rfl,fun w' h=>(by dsimp only at h;go_simp)⟩) (fun _=>by rfl) ?_;simp only[ap,qF];refine AnyF.one (i:=2) rfl kR (fun K1 hK1=>?_);go_simp;refine⟨trivial,?_⟩;refine(callsIn_wide.2 (SV ba c na fa ga (h k) _ N1 HWX)).mono ?_;rintro e v1 ⟨rfl,hb1⟩;have S1:v1.cell? ⟨P,0,none⟩=some (.int .i64 ba)/\v1.cell? ⟨P,1,none⟩=some (.map (some c))/\v1.cell? ⟨Q,0,none⟩=some (.int .i64 bb)/\v1.cell? ⟨Q,1,none⟩=some (.map (some d)):=⟨(hb1.cell (p:=⟨P,0,none⟩) lPr).trans r1,(hb1.cell (p:=⟨P,1,none⟩) lPr).trans r2,(hb1.cell (p:=⟨Q,0,none⟩) lQr).trans r3,(hb1.cell (p:=⟨Q,1,none⟩) lQr).trans r4⟩;refine hK1 _ _ (fun _=>S1) ?_;clear hK1 K1;refine AnyF.one (i:=5) rfl kR (fun K1 hK1=>?_);go_simp;refine⟨trivial,?_⟩;refine(callsIn_wide.2 (SV bb d nb fb gb (h k) _ (N2.below hb1) HWX)).mono ?_;rintro e v2 ⟨rfl,hb2⟩;have lPv:P<v1.heap.size:=qv lPr hb1.size;have lQv:Q<v1.heap.size:=qv lQr hb1.size;have S2:v2.cell? ⟨P,0,none⟩=some (.int .i64 ba)/\v2.cell? ⟨P,1,none⟩=some (.map (some c))/\v2.cell? ⟨Q,0,none⟩=some (.int .i64 bb)/\v2.cell? ⟨Q,1,none⟩=some (.map (some d)):=⟨(hb2.cell (p:=⟨P,0,none⟩) lPv).trans S1.1,(hb2.cell (p:=⟨P,1,none⟩) lPv).trans S1.2.1,(hb2.cell (p:=⟨Q,0,none⟩) lQv).trans S1.2.2.1,(hb2.cell (p:=⟨Q,1,none⟩) lQv).trans S1.2.2.2⟩;have B2:qN wr wr v2:=(((Below.refl _ wr).drew.trans hb1).trans (hb2.mono hb1.size));refine hK1 _ _ (fun _=>S2) ?_;clear hK1 K1 S0 S1 hb1 hb2;refine AnyF.takeD (i:=6) (d:=26) (.bool true) rfl rfl rfl kR kR kR kR kR (fun _ _ _ h=>h) S2 (kz ⟨by rfl,fun w' h=>(by dsimp only at h;go_simp)⟩) (fun _=>by rfl) ?_;simp only[ap,qF];refine AnyF.takeD (i:=7) (d:=27) (.bool true) rfl rfl rfl kR kR kR kR kR (fun _ _ _ h=>h) S2 (kz ⟨by rfl,fun w' h=>(by dsimp only at h;go_simp)⟩) (fun _=>by rfl) ?_;simp only[ap,qF];refine AnyF.takeD (i:=8) (d:=28) (.func (.yield l) #[] #[]) rfl rfl rfl kR kR kR kR kR (fun _ _ _ h=>h) S2 (kz ⟨by rfl,fun w' h=>(by dsimp only at h;go_simp)⟩) (fun _=>by rfl) ?_;simp only[ap,qF];refine AnyF.takeD (i:=9) (d:=29) (.int .i64 (h k)) rfl rfl rfl kR kR kR kR kR (fun _ _ _ h=>h) S2 (kz ⟨by rfl,fun w' h=>(by dsimp only at h;go_simp)⟩) (fun _=>by rfl) ?_;simp only[ap,qF];obtain⟨fn,tmps,assign,body,hy,hR⟩:=hyk.out v2 B2;refine AnyF.one (i:=10) rfl kR (fun K1 hK1=>?_);go_simp;refine hR.mono ?_;rintro e W3 (⟨rfl,hJ3,hk3⟩|⟨rfl,hJx3⟩)
     ·refine hK1 _ _ (fun h=>by simp at h) ?_;clear hK1 K1;refine AnyF.one (i:=11) rfl kR (fun K1 hK1=>?_);go_simp;refine hK1 _ _ (fun h=>by simp at h) ?_;clear hK1 K1;refine AnyF.one (i:=12) rfl kR (fun K1 hK1=>?_);go_simp;refine hK1 _ _ (fun h=>by simp at h) ?_;clear hK1 K1;refine AnyF.done kR ?_;gi_wp2;go_roundw;case rel=>
       refine⟨k+1,pre++[h k],by omega,by go_num,by simp;omega,fun x=>?_,hJ3,(hK.trans (BJ.of_below B2)).trans hk3⟩;rw[jq,HP.out x];constructor
       ·rintro(⟨⟨j,hj,e⟩,q⟩|q)
        ·exact⟨⟨j,by omega,e⟩,q⟩
        ·obtain rfl:x=h k:=by simpa using q
         exact⟨⟨k,by omega,rfl⟩,t5⟩
       ·rintro⟨⟨j,hj,e⟩,q⟩;by_cases ej:j=k
        ·subst ej;subst e;exact .inr sI
        ·exact .inl ⟨⟨j,by omega,e⟩,q⟩
      case measure=>simp[intOf];omega
     ·refine hK1 _ _ (fun h=>by simp at h) ?_;clear hK1 K1;refine AnyF.one (i:=11) rfl kR (fun K1 hK1=>?_);go_simp;refine hK1 _ _ (fun h=>by simp at h) ?_;clear hK1 K1;refine AnyF.one (i:=12) rfl kR (fun K1 hK1=>?_);go_simp;refine hK1 _ _ (fun h=>by simp at h) ?_;clear hK1 K1;refine AnyF.done kR ?_;gi_wp2;refine bodyPost_ret (results_none rfl _ _ _) rfl ?_;refine⟨⟨_,rfl⟩,.inr ⟨pre++[h k],fun x hx=>?_,hJx3⟩⟩;have hx2:(∃j,j<n/\h j=x)/\Fo bb nb fb gb x<Fo ba na fa ga x:=by
       rcases jq.1 hx with hx|hx
       ·obtain⟨⟨j,hj,e⟩,q⟩:=(HP x).1 hx;exact⟨⟨j,by omega,e⟩,q⟩
       ·obtain rfl:x=h k:=by simpa using hx
        exact⟨⟨k,hlt',rfl⟩,t5⟩
      have:=(HM x).1 hx2.1;unfold Ir;rw[this];simpa using hx2.2
    ·skip;gi_wp2_with fail;refine AnyF.region (fun w'=>w'.cell? ⟨P,0,none⟩=some (.int .i64 ba)/\w'.cell? ⟨P,1,none⟩=some (.map (some c))/\w'.cell? ⟨Q,0,none⟩=some (.int .i64 bb)/\w'.cell? ⟨Q,1,none⟩=some (.map (some d))) [] hmix ?_;have S0:wr.drew.cell? ⟨P,0,none⟩=some (.int .i64 ba)/\wr.drew.cell? ⟨P,1,none⟩=some (.map (some c))/\wr.drew.cell? ⟨Q,0,none⟩=some (.int .i64 bb)/\wr.drew.cell? ⟨Q,1,none⟩=some (.map (some d)):=⟨r1,r2,r3,r4⟩;refine AnyF.takeD (i:=0) (d:=20) (.agg #[.int .i64 ba,.map (some c)]) rfl rfl rfl kR kR kR kR kR (fun _ _ _ h=>h) S0 (kz ⟨by rfl,fun w' h=>(by dsimp only at h;go_simp)⟩) (fun _=>by rfl) ?_;simp only[ap,qF];refine AnyF.takeD (i:=1) (d:=21) (.int .i64 (h k)) rfl rfl rfl kR kR kR kR kR (fun _ _ _ h=>h) S0 (kz ⟨by rfl,fun w' h=>(by dsimp only at h;go_simp)⟩) (fun _=>by rfl) ?_;simp only[ap,qF];refine AnyF.takeD (i:=3) (d:=23) (.agg #[.int .i64 bb,.map (some d)]) rfl rfl rfl kR kR kR kR kR (fun _ _ _ h=>h) S0 (kz ⟨by rfl,fun w' h=>(by dsimp only at h;go_simp)⟩) (fun _=>by rfl) ?_;simp only[ap,qF];refine AnyF.takeD (i:=4) (d:=24) (.int .i64 (h k)) rfl rfl rfl kR kR kR kR kR (fun _ _ _ h=>h) S0 (kz ⟨by rfl,fun w' h=>(by dsimp only at h;go_simp)⟩) (fun _=>by rfl) ?_;simp only[ap,qF];refine AnyF.one (i:=2) rfl kR (fun K1 hK1=>?_);go_simp;refine⟨trivial,?_⟩;refine(callsIn_wide.2 (SV ba c na fa ga (h k) _ N1 HWX)).mono ?_;rintro e v1 ⟨rfl,hb1⟩;have S1:v1.cell? ⟨P,0,none⟩=some (.int .i64 ba)/\v1.cell? ⟨P,1,none⟩=some (.map (some c))/\v1.cell? ⟨Q,0,none⟩=some (.int .i64 bb)/\v1.cell? ⟨Q,1,none⟩=some (.map (some d)):=⟨(hb1.cell (p:=⟨P,0,none⟩) lPr).trans r1,(hb1.cell (p:=⟨P,1,none⟩) lPr).trans r2,(hb1.cell (p:=⟨Q,0,none⟩) lQr).trans r3,(hb1.cell (p:=⟨Q,1,none⟩) lQr).trans r4⟩;refine hK1 _ _ (fun _=>S1) ?_;clear hK1 K1;refine AnyF.one (i:=5) rfl kR (fun K1 hK1=>?_);go_simp;refine⟨trivial,?_⟩;refine(callsIn_wide.2 (SV bb d nb fb gb (h k) _ (N2.below hb1) HWX)).mono ?_;rintro e v2 ⟨rfl,hb2⟩;have lPv:P<v1.heap.size:=qv lPr hb1.size;have lQv:Q<v1.heap.size:=qv lQr hb1.size;have S2:v2.cell? ⟨P,0,none⟩=some (.int .i64 ba)/\v2.cell? ⟨P,1,none⟩=some (.map (some c))/\v2.cell? ⟨Q,0,none⟩=some (.int .i64 bb)/\v2.cell? ⟨Q,1,none⟩=some (.map (some d)):=⟨(hb2.cell (p:=⟨P,0,none⟩) lPv).trans S1.1,(hb2.cell (p:=⟨P,1,none⟩) lPv).trans S1.2.1,(hb2.cell (p:=⟨Q,0,none⟩) lQv).trans S1.2.2.1,(hb2.cell (p:=⟨Q,1,none⟩) lQv).trans S1.2.2.2⟩;have B2:qN wr wr v2:=(((Below.refl _ wr).drew.trans hb1).trans (hb2.mono hb1.size));refine hK1 _ _ (fun _=>S2) ?_;clear hK1 K1 S0 S1 hb1 hb2;refine AnyF.takeD (i:=6) (d:=26) (.bool false) rfl rfl rfl kR kR kR kR kR (fun _ _ _ h=>h) S2 (kz ⟨by rfl,fun w' h=>(by dsimp only at h;go_simp)⟩) (fun _=>by rfl) ?_;simp only[ap,qF];refine AnyF.takeD (i:=7) (d:=27) (.bool false) rfl rfl rfl kR kR kR kR kR (fun _ _ _ h=>h) S2 (kz ⟨by rfl,fun w' h=>(by dsimp only at h;go_simp)⟩) (fun _=>by rfl) ?_;simp only[ap,qF];refine AnyF.skip (i:=8) (d:=28) rfl rfl rfl kR kR kR kR kR (fun _ _ _ h=>h) S2 qK (fun _=>by rfl) ?_;simp only[ap,qF];refine AnyF.skip (i:=9) (d:=29) rfl rfl rfl kR kR kR kR kR (fun _ _ _ h=>h) S2 qK (fun _=>by rfl) ?_;simp only[ap,qF];refine AnyF.skip (i:=10) (d:=30) rfl rfl rfl kR kR kR kR kR (fun _ _ _ h=>h) S2 qK (fun _=>by rfl) ?_;simp only[ap,qF];refine AnyF.skip (i:=11) (d:=31) rfl rfl rfl kR kR kR kR kR (fun _ _ _ h=>h) S2 qK (fun _=>by rfl) ?_;simp only[ap,qF];refine AnyF.takeD (i:=12) (d:=32) (.bool false) rfl rfl rfl kR kR kR kR kR (fun _ _ _ h=>h) S2 (kz ⟨by rfl,fun w' h=>(by dsimp only at h;go_simp)⟩) (fun _=>by rfl) ?_;simp only[ap,qF];refine AnyF.done kR ?_;gi_wp2;go_roundw;case rel=>
      refine⟨k+1,pre,by omega,by go_num,by omega,fun x=>?_,HJ0 pre wr v2 none HJp (Hk B2) (fun r e=>by cases e),hK.trans (BJ.of_below B2)⟩;rw[HP.out x];constructor
      ·rintro⟨⟨j,hj,e⟩,q⟩;exact⟨⟨j,by omega,e⟩,q⟩
      ·rintro⟨⟨j,hj,e⟩,q⟩;by_cases ej:j=k
       ·subst ej;subst e;exact absurd q qQ
       ·exact⟨⟨j,by omega,e⟩,q⟩
     case measure=>simp[intOf];omega
   ·clear hat b1 b2 b3 b4 M1 M2;gi_wp2;go_end0;refine⟨⟨_,rfl⟩,.inl ⟨pre,fun x=>?_,HJp⟩⟩;have ek:k=n:=qQ;subst ek;rw[HP.out x,HM.out x];simp[Ir]
open Go.Value renaming pointer→pT,bool→qU,int→iT
open Go.IntKind renaming i64→qH
open Go.Obj renaming cells→qG
attribute [local go_sem] Oper.semAt_some
theorem Ys(a:Option Addr)(n cap:Nat)(h:Nat->Int)(x:Int)(w:World)(hn:n<=maxLen)(hc:Bp w a n h):
 Calls prog 180 #[qV a n cap,iT qH x] w fun e w'=>∃r:Int,e= rT (iT qH r)/\(decide (0<=r)=hasB n h x)/\w'=w:=by
 unfold maxLen at hn;go_enter func180,ntmps180
 go_wp2;go_loop [8] (fun i=>∃k:Nat,k<=n/\i= iT qH k/\(∀j,j<k->h j≠x)) (fun i=>n-(intOf i).toNat)
 case atStart=>exact⟨0,Nat.zero_le _,rfl,fun j hj=>by omega⟩
 case round=>
  obtain⟨k,hk,rfl,hall⟩:=hrel;have HA:Hid (∀j,j<k->h j≠x):=hall;clear hall;by_cases hlt':k<n
  ·obtain⟨b,off,rfl,hlt,hcc⟩:=hc qQ;have g1:=hcc k hlt';clear hcc hc;by_cases t:(x==h k)=true
   ·go_wp2;go_ret;exact⟨_,rfl,by rw[Py hlt' (by simpa using(beq_iff_eq.1 t).symm)];simp,rfl⟩
   ·have t':(x==h k)=false:=(by simpa using t);clear t;go_wp2;go_round;case rel=>
     refine⟨k+1,by omega,by go_num,fun j hj=>?_⟩;by_cases e:j=k
     ·subst e;intro q;rw[q]at t';simp at t'
     ·exact HA.out j qQ
    case measure=>simp[intOf];omega
  ·clear hc;go_wp2;go_ret;have e:k=n:=qQ;subst e;exact⟨_,rfl,by rw[Sz HA.out];simp,rfl⟩
theorem I3(a:Option Addr)(n cap:Nat)(h:Nat->Int)(x:Int)(w:World)(hn:n<=maxLen)(hc:Bp w a n h):
 Calls prog 178 #[qV a n cap,iT qH x] w fun e w'=>e= rT (qU (hasB n h x))/\w'=w:=by
 go_enter func178,ntmps178
 go_wp2_with(go_at_call 180;refine(Ys _ _ _ h _ _ hn hc).mono ?_;rintro e w' ⟨r,rfl,hr,rfl⟩)
 all_goals
  go_ret;refine⟨Ah ?_,rfl⟩;rw[<-hr];first|done|(simp;done)|(simp;omega)
theorem QG(ba:Int)(aa:Option Addr)(na ka:Nat)(bb:Int)(ab:Option Addr)(nb kb:Nat)(w:World):
 Calls prog 201 #[.agg #[iT qH ba,qV aa na ka],.agg #[iT qH bb,qV ab nb kb]] w fun e w'=>e= rT (.func (.func 217) #[] #[pT (w),pT (some ⟨w.heap.size+1,0,none⟩)])/\
  w'=(w.alloc (qG #[iT qH ba,qV aa na ka] 42)).alloc (qG #[iT qH bb,qV ab nb kb] 42):=by
 go_enter func201,ntmps201
 go_wp2;go_ret;exact⟨rfl,rfl⟩
def Dn(ba:Int)(na:Nat)(fa ga:Nat->Int)(no:Nat)(ho:Nat->Int)(bb:Int)(nb:Nat)(fb gb:Nat->Int):Bool:=
 Bb ba na fa ga&&Bb bb nb fb gb&&Cf no ho&&CX ba na fa ga no ho bb nb fb gb
theorem OU{ba:Int}{na:Nat}{fa ga:Nat->Int}{bb:Int}{nb:Nat}{fb gb:Nat->Int}{x:Int}(h0:ba<=bb)(h:Fo bb nb fb gb x<Fo ba na fa ga x):
 ((look fa ga na x).isSome||(look fb gb nb x).isSome)=true:=by
 cases h1:look fa ga na x with
 |some v=>simp
 |none=>
  cases h2:look fb gb nb x with
  |some v=>simp
  |none=>simp[Fo,h1,h2]at h;omega
theorem PN{ba:Int}{na:Nat}{fa ga:Nat->Int}{no:Nat}{ho:Nat->Int}{bb:Int}{nb:Nat}{fb gb:Nat->Int}(h0:ba<=bb)
 (h:∀x,Ir ba na fa ga bb nb fb gb x=true->hasB no ho x=true):CX ba na fa ga no ho bb nb fb gb=true:=by
 refine QT h0 fun i hi=>?_;unfold JE;by_cases e:Fo bb nb fb gb (glue na fa fb i)<Fo ba na fa ga (glue na fa fb i)
 ·rw[h _ (by unfold Ir;rw[OU h0 e];simpa using e)];rfl
 ·simp[e]
theorem NH{ba:Int}{na:Nat}{fa ga:Nat->Int}{no:Nat}{ho:Nat->Int}{bb:Int}{nb:Nat}{fb gb:Nat->Int}{x:Int}
 (h:Ir ba na fa ga bb nb fb gb x=true)(ho':hasB no ho x=false):CX ba na fa ga no ho bb nb fb gb=false:=by
 unfold Ir at h;rw[Bool.and_eq_true,Bool.or_eq_true]at h;have hl:JE ba na fa ga no ho bb nb fb gb x=false:=by unfold JE;rw[ho',h.2];rfl
 rcases h.1 with e|e
 ·obtain⟨i,hi,e⟩:=Nk e;exact Mj (k:=i) qQ (by simp only[glue,hi,if_true];rw[e];exact hl)
 ·obtain⟨i,hi,e⟩:=Nk e;exact Mj (k:=na+i) qQ (by
   have e1:¬na+i<na:=qQ;have e2:na+i-na=i:=qQ;simp only[glue,e1,if_false,e2];rw[e];exact hl)
theorem It(ba:Int)(aa:Option Addr)(na ka:Nat)(fa ga:Nat->Int)(ao:Option Addr)(no ko:Nat)(ho:Nat->Int)(bb:Int)(ab:Option Addr)(nb kb:Nat)(fb gb:Nat->Int)(w:World)
 (hna:na<=maxLen)(hnb:nb<=maxLen)(hno:no<=maxLen)(hca:Bd w aa na fa ga)(hcb:Bd w ab nb fb gb)(hco:Bp w ao no ho):
 Calls prog 179 #[.agg #[iT qH ba,qV aa na ka],qV ao no ko,.agg #[iT qH bb,qV ab nb kb]] w fun e w'=>e= rT (qU (Dn ba na fa ga no ho bb nb fb gb))/\qN w w w':=by
 have n2:No (qG #[iT qH ba,qV aa na ka] 42):=⟨⟩;have n4:No (qG #[iT qH bb,qV ab nb kb] 42):=⟨⟩;have hb0:=((((Below.refl _ w).alloc nr n2).alloc sI (qG #[qV ao no ko] 51)).alloc sO n4).alloc sO (qG #[qU false] 4);obtain⟨W0,hW0⟩:∃W0,W0=((((w.alloc n2).alloc (qG #[qV ao no ko] 51)).alloc n4).alloc (qG #[qU false] 4)):=⟨_,rfl⟩;have y1:W0.cell? ⟨w,0,none⟩=some (iT qH ba):=by rw[hW0];go_simp
 have y2:W0.cell? ⟨w,1,none⟩=some (qV aa na ka):=by rw[hW0];go_simp
 have y3:W0.cell? ⟨w.heap.size+1,0,none⟩=some (qV ao no ko):=by rw[hW0];go_simp
 have y4:W0.cell? ⟨w.heap.size+1+1,0,none⟩=some (iT qH bb):=by rw[hW0];go_simp
 have y5:W0.cell? ⟨w.heap.size+1+1,1,none⟩=some (qV ab nb kb):=by rw[hW0];go_simp
 have y6:W0.cell? ⟨w.heap.size+1+1+1,0,none⟩=some (qU false):=by rw[hW0];go_simp
 have y7:W0.frozen? ⟨w.heap.size+1+1+1,0,none⟩=false:=by rw[hW0];go_simp
 have ys:W0.heap.size=w.heap.size+4:=by rw[hW0];simp
 rw[<-hW0]at hb0;have n3:Na #[iT qH ba,qV aa na ka]:=⟨⟩;have n5:Na #[iT qH bb,qV ab nb kb]:=⟨⟩;have HW0:Hid (W0=((((w.alloc (qG n3 42)).alloc (qG #[qV ao no ko] 51)).alloc (qG n5 42)).alloc (qG #[qU false] 4))):=hW0;clear hW0;have dV:Hid (∀W1,qN w w W1->W1.cell? ⟨w.heap.size+1+1+1,0,none⟩=some (qU false)->Dn ba na fa ga no ho bb nb fb gb=false->
  ∀tm:Array Value,tm[6]? =some (pT (some ⟨w.heap.size+1+1+1,0,none⟩))->bodyPost prog Tryz.f179 (fun e w'=>e= rT (qU (Dn ba na fa ga no ho bb nb fb gb))/\qN w w w') .ret {tmps:=tm,defers:=[]} (W1.setCell ⟨w.heap.size+1+1+1,0,none⟩ (qU false))):=fun W1 hB hc hf tm ht=>by
  have hc5:=World.cell?_setCell_same' W1 ⟨w.heap.size+1+1+1,0,none⟩ (qU false) (by rw[hc];rfl);refine bodyPost_ret (v:= qU false) ?_ rfl ⟨by rw[hf],hB.setCell (p:=⟨w.heap.size+1+1+1,0,none⟩) qJ _⟩;simp[results,Tryz.results179,go_sem,ht,hc5]
 by_cases good:Bb ba na fa ga=true/\Bb bb nb fb gb=true/\Cf no ho=true/\ba<=bb
 ·obtain⟨t1,t2,t3,t4⟩:=good;refine(callsIn_wide (n:=4)).1 ?_;refine callsIn_of_wp_marks func179 rfl trivial ?_ rfl;simp only[ntmps179,List.size_toArray,List.length_cons,List.length_nil,Nat.reduceAdd,Nat.reduceSub,Array.replicate_succ,Array.replicate_zero,List.push_toArray,List.append_toArray,List.nil_append,List.cons_append];gi_wp2_with fail;rw[<-HW0.out];refine⟨trivial,?_⟩;refine(callsIn_wide.2 (Eo _ _ _ _ fa ga _ hna (hca.below hb0))).mono ?_;rintro e w1 ⟨rfl,hb1⟩;have z1:w.heap.size+1+1+1<w1.heap.size:=by have:=hb1.size;omega
  have B1:qN w w w1:=hb0.trans (hb1.mono qQ);have x1:=(hb1.cell (p:=⟨w,0,none⟩) qJ).trans y1;have x2:=(hb1.cell (p:=⟨w,1,none⟩) qJ).trans y2;have x3:=(hb1.cell (p:=⟨w.heap.size+1,0,none⟩) qJ).trans y3;have x4:=(hb1.cell (p:=⟨w.heap.size+1+1,0,none⟩) qJ).trans y4;have x5:=(hb1.cell (p:=⟨w.heap.size+1+1,1,none⟩) qJ).trans y5;have x6:=(hb1.cell (p:=⟨w.heap.size+1+1+1,0,none⟩) qJ).trans y6;have x7:=(hb1.frozen (p:=⟨w.heap.size+1+1+1,0,none⟩) qJ).trans y7;clear y1 y2 y3 y4 y5 y6 y7 hb1;gi_wp2_with fail;refine⟨trivial,?_⟩;refine(callsIn_wide.2 (Eo _ _ _ _ fb gb _ hnb (hcb.below B1))).mono ?_;rintro e w2 ⟨rfl,hb2⟩;have z2:w.heap.size+1+1+1<w2.heap.size:=by have:=hb2.size;omega
  have B2:qN w w w2:=B1.trans (hb2.mono qQ);have u1:=(hb2.cell (p:=⟨w,0,none⟩) qJ).trans x1;have u2:=(hb2.cell (p:=⟨w,1,none⟩) qJ).trans x2;have u3:=(hb2.cell (p:=⟨w.heap.size+1,0,none⟩) qJ).trans x3;have u4:=(hb2.cell (p:=⟨w.heap.size+1+1,0,none⟩) qJ).trans x4;have u5:=(hb2.cell (p:=⟨w.heap.size+1+1,1,none⟩) qJ).trans x5;have u6:=(hb2.cell (p:=⟨w.heap.size+1+1+1,0,none⟩) qJ).trans x6;have u7:=(hb2.frozen (p:=⟨w.heap.size+1+1+1,0,none⟩) qJ).trans x7;clear x1 x2 x3 x4 x5 x6 x7 hb2;gi_wp2_with fail;refine⟨trivial,?_⟩;refine(callsIn_wide.2 (Ja _ _ _ ho _ hno (hco.below B2))).mono ?_;rintro e w3 ⟨rfl,rfl⟩;gi_wp2_with fail;refine⟨trivial,?_⟩;refine(callsIn_wide.2 (QG _ _ _ _ _ _ _ _ _)).mono ?_;rintro e w4 ⟨rfl,h4⟩;have c1:w4.cell? ⟨w3,0,none⟩=some (iT qH ba):=by rw[h4];go_simp
  have c2:w4.cell? ⟨w3,1,none⟩=some (qV aa na ka):=by rw[h4];go_simp
  have c3:w4.cell? ⟨w3.heap.size+1,0,none⟩=some (iT qH bb):=by rw[h4];go_simp
  have c4:w4.cell? ⟨w3.heap.size+1,1,none⟩=some (qV ab nb kb):=by rw[h4];go_simp
  have z4:w4.heap.size=w3.heap.size+2:=by rw[h4];simp
  have hb4:qN w3 w3 w4:=by rw[h4];exact(Bg _ _).alloc sI _
  clear h4;have B4:qN w w w4:=B2.trans (hb4.mono qQ);have x1:=(hb4.cell (p:=⟨w,0,none⟩) qJ).trans u1;have x2:=(hb4.cell (p:=⟨w,1,none⟩) qJ).trans u2;have x3:=(hb4.cell (p:=⟨w.heap.size+1,0,none⟩) qJ).trans u3;have x4:=(hb4.cell (p:=⟨w.heap.size+1+1,0,none⟩) qJ).trans u4;have x5:=(hb4.cell (p:=⟨w.heap.size+1+1,1,none⟩) qJ).trans u5;have x6:=(hb4.cell (p:=⟨w.heap.size+1+1+1,0,none⟩) qJ).trans u6;have x7:=(hb4.frozen (p:=⟨w.heap.size+1+1+1,0,none⟩) qJ).trans u7;clear u1 u2 u3 u4 u5 u6 u7 hb4;gi_wp2_with fail;have hLt:Ke w4 w3 (w3.heap.size+1) ba aa na ka fa ga bb ab nb kb fb gb:=⟨by omega,by omega,c1,c2,c3,c4,hca.below B4,hcb.below B4⟩;have ma:na<=1048576:=by have:=(Kj t1).2.1;omega
  have mb:nb<=1048576:=by have:=(Kj t2).2.1;omega
  have n1:Na #[pT (w3),pT (some ⟨w3.heap.size+1,0,none⟩)]:=⟨⟩;have hseq:SeqStopsK Fence.wide 3 prog 217 n1 (fun x:Int=>#[Value.int .i64 x]) BJ
   (fun xs=>∀x,x∈xs↔Ir ba na fa ga bb nb fb gb x=true) (fun pre=>∀x,x∈pre->Ir ba na fa ga bb nb fb gb x=true) (na+nb) w4:=fun l J Jx W hW hJ hJx hY h0=>
   callsIn_wide.2 (Qb l w3 (w3.heap.size+1) ba aa na ka fa ga bb ab nb kb fb gb J Jx W ma mb (UD t1) (UD t2) (hLt.below hW) hJ hY h0)
  clear c1 c2 c3 c4 hLt x1 x2 x4 x5;refine wpIn_rangeFunc_ownF rfl qQ (gf:=217) (lb:=#[pT (w3),pT (some ⟨w3.heap.size+1,0,none⟩)]) rfl trivial (enters_of func217 kR rfl)
   hseq BJ.trans (BJ.book (w:=w4)) (Below.refl _ _) (fun _=>rfl)
   (fun pre W=>((∀y,y∈pre->hasB no ho y=true)/\W.cell? ⟨w.heap.size+1,0,none⟩=some (qV ao no ko)/\W.cell? ⟨w.heap.size+1+1+1,0,none⟩=some (qU false)/\W.frozen? ⟨w.heap.size+1+1+1,0,none⟩=false)/\qN w w W)
   (fun c pre W=>(c= .ret/\(∃y,y∈pre/\hasB no ho y=false)/\W.cell? ⟨w.heap.size+1+1+1,0,none⟩=some (qU false))/\qN w w W)
   (OwnFrom.and (Own.from (fun s A B row hs hg hr=>⟨hs.1,cell_kept hs.2.1 hg hr,cell_kept hs.2.2.1 hg hr,(frozen_kept hs.2.2.1 hg hr).trans hs.2.2.2⟩) _) (ownFrom_below nr qQ))
   (fun c=>OwnFrom.and (Own.from (fun s A B row hs hg hr=>⟨hs.1,hs.2.1,cell_kept hs.2.2 hg hr⟩) _) (ownFrom_below nr qQ))
   ⟨⟨by simp,x3,x6,x7⟩,B4⟩
   (fun x=>{tmps:=#[.agg n3,qV ao no ko,.agg n5,pT (w),pT (some ⟨w.heap.size+1,0,none⟩),pT (some ⟨w.heap.size+1+1,0,none⟩),pT (some ⟨w.heap.size+1+1+1,0,none⟩),iT qH x,.agg n3,qU true,qU false,qU false,.agg n5,qU true,qU false,qU false,qU false,qV ao no ko,qU true,qU false,qU false,qU false,pT (w),iT qH ba,pT (some ⟨w.heap.size+1+1,0,none⟩),iT qH bb,qU (decide (bb<ba)),qU (decide (bb<ba)),.agg n3,.agg n5,.func (.func 217) #[] n1,iT qH x,undef,undef,undef,undef],defers:=[]}) ?assign ?body ?done ?stop
  case assign=>
   intro l x W K hK;gi_wp2;exact hK
  case body=>
   rintro l pre x W ⟨⟨hp,hcw,hcr,hfr⟩,hB⟩ _;have HP:Hid (∀y,y∈pre->hasB no ho y=true):=hp;clear hp;have hcon:=I3 ao no ko ho x W hno (hco.below hB);gi_wp2_with fail;refine⟨trivial,?_⟩;refine(CallsIn.inRound l (callsIn_wide.2 hcon)).mono ?_;clear hcon;rintro e W1 ⟨rfl,rfl⟩;cases hx:hasB no ho x with
   |true=>
    have HX:Hid (hasB no ho x=true):=hx;clear hx;gi_wp2;exact⟨KeepsOthers.refl _,BJ.refl _,⟨fun y hy=>(jq.1 hy).elim (HP y) (fun e=>by simp at e;subst e;exact HX.out),hcw,hcr,hfr⟩,hB⟩
   |false=>
    have HX:Hid (hasB no ho x=false):=hx;clear hx;gi_wp2;exact⟨KeepsOthers.setCell _ _ _,⟨rfl,⟨x,jq.2 (.inr sI),HX⟩,World.cell?_setCell_same' _ _ _ (by rw[hcr];rfl)⟩,hB.setCell (p:=⟨w.heap.size+1+1+1,0,none⟩) qJ _⟩
  case done=>
   rintro D ys W hD hS ⟨⟨hne,_,hcr,hfr⟩,hB⟩ hK;have hflow:Dn ba na fa ga no ho bb nb fb gb=true:=by
    have:=PN (no:=no) (ho:=ho) t4 (fun x hx=>hne x ((hS x).2 hx));simp[Dn,t1,t2,t3,this]
   have HF:Hid (Dn ba na fa ga no ho bb nb fb gb=true):=hflow;clear hflow hS hne;gi_wp2;have hK':=(KeepsOthers.setCell W ⟨w.heap.size+1+1+1,0,none⟩ (qU true)).same D _ hK rfl;refine⟨by simp,.inl ⟨_,_,rfl,run_takeDeferred hK',?_⟩⟩;have hc5:=cell_kept (World.cell?_setCell_same' W ⟨w.heap.size+1+1+1,0,none⟩ (qU true) (by rw[hcr];rfl)) (grownBy_putObj' _ D (.deferred none)) (fun r e=>by cases e;exact⟨_,hK',rfl⟩);refine⟨qU true,?_,by rw[HF.out],(hB.setCell (p:=⟨w.heap.size+1+1+1,0,none⟩) qJ _).trans (belowK_b (w:=w) nr _ D _ _ qQ hK' rfl rfl)⟩;simp[results,Tryz.results179,go_sem,hc5]
  case stop=>
   rintro D c pre W hD hpre ⟨⟨rfl,⟨y,hy,hno'⟩,hcr⟩,hB⟩ hK;have HF:Hid (Dn ba na fa ga no ho bb nb fb gb=false):=(by show _=_;simp[Dn,NH (hpre y hy) hno']);clear hpre;gi_wp2;refine⟨by simp,.inl ⟨_,_,rfl,run_takeDeferred hK,?_⟩⟩;have hc5:=cell_kept hcr (grownBy_putObj' _ D (.deferred none)) (fun r e=>by cases e;exact⟨_,hK,rfl⟩);refine⟨qU false,?_,by rw[HF.out],hB.trans (belowK_b (w:=w) nr W D _ _ qQ hK rfl rfl)⟩;simp[results,Tryz.results179,go_sem,hc5]
 ·go_enter func179,ntmps179
  go_wp2_with fail
  rw[<-HW0.out];refine(Eo _ _ _ _ fa ga _ hna (hca.below hb0)).mono ?_;rintro e w1 ⟨rfl,hb1⟩;have z1:w.heap.size+1+1+1<w1.heap.size:=by have:=hb1.size;omega
  have B1:qN w w w1:=hb0.trans (hb1.mono qQ);have x1:=(hb1.cell (p:=⟨w,0,none⟩) qJ).trans y1;have x2:=(hb1.cell (p:=⟨w,1,none⟩) qJ).trans y2;have x3:=(hb1.cell (p:=⟨w.heap.size+1,0,none⟩) qJ).trans y3;have x4:=(hb1.cell (p:=⟨w.heap.size+1+1,0,none⟩) qJ).trans y4;have x5:=(hb1.cell (p:=⟨w.heap.size+1+1,1,none⟩) qJ).trans y5;have x6:=(hb1.cell (p:=⟨w.heap.size+1+1+1,0,none⟩) qJ).trans y6;have x7:=(hb1.frozen (p:=⟨w.heap.size+1+1+1,0,none⟩) qJ).trans y7;clear y1 y2 y3 y4 y5 y6 y7 hb1;by_cases t1:Bb ba na fa ga=true
  ·go_wp2_with fail
   refine(Eo _ _ _ _ fb gb _ hnb (hcb.below B1)).mono ?_;rintro e w2 ⟨rfl,hb2⟩;have z2:w.heap.size+1+1+1<w2.heap.size:=(by have:=hb2.size;omega);have B2:qN w w w2:=B1.trans (hb2.mono qQ);have u1:=(hb2.cell (p:=⟨w,0,none⟩) qJ).trans x1;have u2:=(hb2.cell (p:=⟨w,1,none⟩) qJ).trans x2;have u3:=(hb2.cell (p:=⟨w.heap.size+1,0,none⟩) qJ).trans x3;have u4:=(hb2.cell (p:=⟨w.heap.size+1+1,0,none⟩) qJ).trans x4;have u5:=(hb2.cell (p:=⟨w.heap.size+1+1,1,none⟩) qJ).trans x5;have u6:=(hb2.cell (p:=⟨w.heap.size+1+1+1,0,none⟩) qJ).trans x6;have u7:=(hb2.frozen (p:=⟨w.heap.size+1+1+1,0,none⟩) qJ).trans x7;clear x1 x2 x3 x4 x5 x6 x7 hb2;by_cases t2:Bb bb nb fb gb=true
   ·go_wp2_with fail
    refine(Ja _ _ _ ho _ hno (hco.below B2)).mono ?_;rintro e w3 ⟨rfl,rfl⟩;by_cases t3:Cf no ho=true
    ·have t4:bb<ba:=by
      by_cases q:ba<=bb
      ·exact absurd ⟨t1,t2,t3,q⟩ good
      ·omega
     have HT:Hid (Dn ba na fa ga no ho bb nb fb gb=false):=(by show _=_;simp[Dn,Nn t4]);clear good;go_wp2;exact dV.out _ B2 u6 HT _ rfl
    ·have t3':Cf no ho=false:=(by simpa using t3);clear t3 good;have HT:Hid (Dn ba na fa ga no ho bb nb fb gb=false):=(by show _=_;simp[Dn,t3']);go_wp2;exact dV.out _ B2 u6 HT _ rfl
   ·have t2':Bb bb nb fb gb=false:=(by simpa using t2);clear t2 good;have HT:Hid (Dn ba na fa ga no ho bb nb fb gb=false):=(by show _=_;simp[Dn,t2']);go_wp2;exact dV.out w2 B2 u6 HT _ rfl
  ·have t1':Bb ba na fa ga=false:=(by simpa using t1);clear t1 good;have HT:Hid (Dn ba na fa ga no ho bb nb fb gb=false):=(by show _=_;simp[Dn,t1']);go_wp2;exact dV.out w1 B1 x6 HT _ rfl
end Go.Proofs.YtdaccbddcjlkpaaGreatDoor
