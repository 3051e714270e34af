import Derived.Deep.DeepCutAuto
import Derived.RangeFuncNested
import Derived.RangeFuncBound
import Derived.RangeFuncCalls
import Derived.RangeFuncLeaves
import Derived.OrdersIn
import Derived.OrdersHeld
import Derived.Test.YtefoofaocbjdoaaGreatDoorZ10s
set_option maxHeartbeats 1000000
namespace Go.Proofs.YtefoofaocbjdoaaGreatDoor
open Go.RowKit Go.Deep Go.Maps Go.Proofs.Tryz
theorem KZ(base:Int)(a:Option Addr)(n cap:Nat)(f g:Nat->Int)(w:World)(hn:n<=1048576)(hc:Ba w a n f g)
 (hw:∀i,i<n->(Lit.int .i64 (f i)).wf=true/\(Lit.int .i64 (g i)).wf=true):
 Calls prog 163 #[.agg #[.int .i64 base,.slice a n cap]] w fun e w'=>∃c,e= .returned (.agg #[.int .i64 base,.map (some c)])/\w.heap.size<=c/\Bo w' c n (look f g n)/\w.heap.size+3<w'.heap.size/\Below w.heap.size w w':=by
 have hmm:=@run_makeMap prog;go_enter func163,ntmps163
 go_wp2;go_loopw [13] (fun i wr=>∃k:Nat,k<=n/\i= .int .i64 k/\Bo wr (w.heap.size+1+1) k (look f g k)/\wr.cell? ⟨w.heap.size+1+1+1,0,none⟩=some (.int .i64 base)/\wr.cell? ⟨w.heap.size+1+1+1,1,none⟩=some (.map (some (w.heap.size+1+1)))/\
  wr.cell? ⟨w.heap.size+1,0,none⟩=some (.int .i64 0)/\wr.cell? ⟨w.heap.size+1,1,none⟩=some (.map none)/\wr.frozen? ⟨w.heap.size+1,0,none⟩=false/\wr.frozen? ⟨w.heap.size+1,1,none⟩=false/\w.heap.size+1+1+1<wr.heap.size/\Below w.heap.size w wr) (fun i _=>n-(intOf i).toNat)
 case atStart=>
  refine⟨0,Nat.zero_le _,rfl,?_,by go_simp,by go_simp,by go_simp,by go_simp,by go_simp,by go_simp,by simp,?_⟩
  ·have:=(Bo.made ((w.alloc (.cells #[.int .i64 base,.slice a n cap] 30)).alloc (.cells #[.int .i64 0,.map none] 216))).alloc (.cells #[.int .i64 base,.map (some (w.heap.size+1+1))] 216);simpa[look]using this
  ·exact(((Be w _).alloc (by simp) _).alloc (by simp;omega) _).alloc (by simp;omega) _
 case round=>
  obtain⟨k,hk,rfl,⟨D,hown,hD,hm⟩,x0,x1,y0,y1,f0,f1,hz,hB⟩:=hrel;clear hmm;by_cases hlt':k<n
  ·obtain⟨b,off,rfl,hlt,hcc⟩:=hc (by omega);obtain⟨h1,h2⟩:=hcc k hlt';obtain⟨w1,w2⟩:=hw k hlt';have g1:wr.cell? ⟨b,off+k*2,none⟩=some (.int .i64 (f k)):=(hB.cell (p:=⟨b,_,none⟩) hlt).trans h1;have g2:wr.cell? ⟨b,off+k*2+1,none⟩=some (.int .i64 (g k)):=(hB.cell (p:=⟨b,_,none⟩) hlt).trans h2;clear h1 h2 hcc hc;have hkey:keyOf prog 2 (.int .i64 (f k))=some (.int .i64 (f k)):=keyOf_int_mk underlying2 w1;have W2:Hid ((Lit.int .i64 (g k)).wf=true):=w2;clear w1 w2;go_wp2_with(at_mapUpdate;refine wpList_mapUpdate_own _ rfl _ _ _ 118 rfl 2 2 Hy underlying118 _ (w.heap.size+1+1) k _ rfl (hown.alloc _) (by unfold maxLen;omega) _ _ _ rfl rfl hkey _ [] (plainElem_int underlying2 W2.out) ?_;intro w1 hown1 hgrow1)
   have hm1:=Bo.put (k:=f k) (v:=g k) hD hm;rw[Om]at hm1;have s1:w.heap.size+1+1+1<(wr.alloc (.cells #[.int .i64 (f k),.int .i64 (g k)] 117)).heap.size:=(by simp;omega);go_roundw;case rel=>
    refine⟨k+1,by omega,by go_num,⟨_,hown1,hm1.1,hm1.2⟩,?_,?_,?_,?_,?_,?_,Nat.lt_of_lt_of_le s1 hgrow1.size,?_⟩
    ·exact(Ci hgrow1 s1 (by omega)).trans ((Be wr _).cell (p:=⟨_,_,none⟩) hz |>.trans x0)
    ·exact(Ci hgrow1 s1 (by omega)).trans ((Be wr _).cell (p:=⟨_,_,none⟩) hz |>.trans x1)
    ·exact(Ci hgrow1 (by omega) (by omega)).trans ((Be wr _).cell (p:=⟨_,_,none⟩) (by dsimp only;omega) |>.trans y0)
    ·exact(Ci hgrow1 (by omega) (by omega)).trans ((Be wr _).cell (p:=⟨_,_,none⟩) (by dsimp only;omega) |>.trans y1)
    ·exact(GC hgrow1 (by omega) (by omega)).trans ((Be wr _).frozen (p:=⟨_,_,none⟩) (by dsimp only;omega) |>.trans f0)
    ·exact(GC hgrow1 (by omega) (by omega)).trans ((Be wr _).frozen (p:=⟨_,_,none⟩) (by dsimp only;omega) |>.trans f1)
    ·exact(hB.alloc (by omega) _).grown hgrow1 (by omega) (fun j hj=>by cases hj;omega)
   case measure=>simp[intOf];omega
  ·clear hc;have e:k=n:=(by omega);have HM:Bo wr (w.heap.size+1+1) n (look f g n):=(by rw[<-e];exact⟨D,hown,hD,hm⟩);clear hown hD hm e;go_wp2;refine bodyPost_ret (v:= .agg #[.int .i64 base,.map (some (w.heap.size+1+1))]) (by simp[results,Tryz.results163,go_sem, *]) rfl ⟨_,rfl,by omega,?_,?_,?_⟩
   ·exact(HM.setCell (by dsimp only;omega) _).setCell (by dsimp only;omega) _
   ·simpa using hz
   ·exact(hB.setCell (by dsimp only;omega) _).setCell (by dsimp only;omega) _
open Go.Sort Go.Shelf
open Go.WideShapes (add_plain)
variable {w:World}{b n:Nat}{l:List Int}
theorem Tryz.sortsA(m:Nat):AnyZI.SortsIn prog Tryz.sortedA_ren Fence.wide m:=
 ⟨fun blk off cap ss W hH hblk hsz=>callsIn_wide.2 (AnyM.slices_Sort_int Tryz.sortA blk off cap ss W hH hblk hsz),
  fun p cap W=>callsIn_wide.2 (AnyM.slices_Sort_int_none Tryz.sortA p cap W)⟩
theorem XC(mb:Option Nat)(W:World):Calls prog 184 #[.map mb] W fun e w'=>e= .returned (.func (.func 195) #[] #[.pointer (W)])/\w'=W.alloc (.cells #[.map mb] 118):=
 (callsIn_wide (n:=5)).1 (AnyZI.keys_in Tryz.keysA Fence.wide 5 trivial rfl mb W)
theorem Tf{D:DataW Unit}(hown:w.ownsMap prog 2 (plainElem prog 2) b n D):(intKeys D).Nodup/\∀x,x∈intKeys D↔Maps.has D (.int .i64 x)=true:=by
 obtain⟨es,hD,hpw,_⟩:=hown.entries Hy;obtain⟨es',hD',hko⟩:=hown.keysOf;obtain rfl:es=es':=by rw[hD]at hD';simpa using hD'
 subst hD;have hk:∀p∈es,∃x,p.1= .int .i64 x:=fun p hp=>by
  obtain⟨v,hv⟩:=hko p hp;obtain⟨x,_,hx,_⟩:=Maps.keyOf_i64 underlying2 hv;exact⟨x,hx⟩
 constructor
 ·show(es.map fun p=>Go.intOf p.1).Nodup;refine List.pairwise_map.2 (hpw.imp_of_mem fun{p q} hp' hq' hne e=>hne ?_);obtain⟨a,ha⟩:=hk p hp';obtain⟨b,hb⟩:=hk q hq';rw[ha,hb]at e ⊢;exact congrArg _ e
 ·intro x;rw[has_eq,List.any_eq_true];show x∈es.map (fun p=>Go.intOf p.1)↔_;rw[List.mem_map];constructor
  ·rintro⟨p,hp',rfl⟩;obtain⟨a,ha⟩:=hk p hp';exact⟨p,hp',by rw[ha];simp[Lit.sameKey,Go.intOf]⟩
  ·rintro⟨p,hp',hs⟩;obtain⟨a,ha⟩:=hk p hp';rw[ha]at hs;exact⟨p,hp',by rw[ha];simpa[Lit.sameKey,Go.intOf]using hs⟩
def nth(l:List Int)(i:Nat):Int:=l.getD i 0
theorem Ra(hs:l.Pairwise (fun a b=>a<=b))(hn:l.Nodup):∀j,j<l.length->∀i,i<j->nth l i<nth l j:=by
 intro j hj i hi;have hp:=hs.and hn;have:=List.pairwise_iff_getElem.1 hp i j (by omega) hj hi;simp only[nth,List.getD_eq_getElem?_getD,List.getElem?_eq_getElem hj,List.getElem?_eq_getElem (show i<l.length by omega),Option.getD_some];have h1:=this.1;have h2:=this.2;omega
theorem Bj.of_owns{B:Nat}{v:Value}(h:w.ownsRow B 2 1 v n (l.map Go.encZ)):l.length=n/\∃a c,v= .slice a n c/\Bj w a n (nth l)/\∀x,a=some x->B<=x.block:=by
 have hl:l.length=n:=by have:=h.1;simpa using this
 refine⟨hl,?_⟩;rcases h.2 with⟨rfl,rfl⟩|⟨gb,cap,cur,rfl,_⟩
 ·exact⟨_,_,rfl,(fun h0=>by omega),fun x e=>by cases e⟩
 ·refine⟨_,_,rfl,fun h0=>?_,fun x e=>by cases e;exact(World.ownsRow.lt h gb rfl).1⟩;have hc:=World.ownsRow.cells h (g:=gb) rfl;have hlt:=(World.ownsRow.lt h gb rfl).2;refine⟨gb,0,rfl,hlt,fun i hi=>?_⟩;have hi':i<l.length:=by omega
  have t:=hc i (Go.encZ l[i]) (by simp[hi']);rw[add_plain]at t;rw[t];simp[nth,hi']
def Jv(w:World)(b n:Nat)(p:Int->Bool):Prop:=
 ∃D:DataW Unit,w.ownsMap prog 2 (plainElem prog 2) b n D/\∀x,Maps.has D (.int .i64 x)=p x
theorem Bo.keys{m:Int->Option Int}(h:Bo w b n m):Jv w b n (fun x=>(m x).isSome):=by
 obtain⟨D,h1,_,h3⟩:=h;exact⟨D,h1,fun x=>(h3 x).1⟩
theorem UR(b nn:Nat)(p:Int->Bool)(w:World)(hm:Jv w b nn p)(hnn:nn<=4194304):
 Calls prog 183 #[.func (.func 195) #[] #[.pointer (w)]] (w.alloc (.cells #[.map (some b)] 118)) fun e w'=>∃(a:Option Addr) (n cap:Nat) (h:Nat->Int),e= .returned (.slice a n cap)/\n<=nn/\
  Bj w' a n h/\(∀x,(∃i,i<n/\h i=x)↔p x=true)/\(∀j,j<n->∀i,i<j->h i<h j)/\(∀i,i<n->(Lit.int .i64 (h i)).wf=true)/\(∀x,a=some x->w.heap.size<=x.block)/\Below w w w':=by
 obtain⟨D,hown,hall⟩:=hm;have hbl:=hown.lt;have hsz:=hown.size_le;have hseq:SeqGives Fence.wide 2 prog 195 #[.pointer (w)] Go.encZ (fun ss=>ss.Perm (intKeys D)) (Maps.size D) (w.alloc (.cells #[.map (some b)] 118)):=
  AnyZI.keys_gives (ρ:=Tryz.keysA_ren) {Tryz.keysA with} Fence.wide _ trivial rfl (by omega) w b nn D _ (by simp) (by simp) (by
   obtain⟨es,clock,hb,Ft,hs,hD⟩:=hown;exact⟨es,clock,(Below.heap_alloc _ _ b hbl).trans hb,Ft,hs,hD⟩)
 have cS:=AnyZI.sorted_in Tryz.sortedA Fence.wide 5 trivial trivial trivial trivial rfl (by omega) (Tryz.sortsA _) (enters_of func103 (by kernel_rfl) rfl) 195 #[.pointer (w)] trivial (enters_of func195 (by kernel_rfl) rfl) _ _ (by unfold maxLen;omega) (by omega) _ hseq;change CallsIn _ _ prog 183 _ _ _ at cS;refine((callsIn_wide (n:=5)).1 cS).mono ?_;rintro e w' ⟨v,ss,rfl,hp,hrow,_,hb⟩;obtain⟨hnd,hmem⟩:=Tf hown;have hq:(ss.mergeSort (fun x y=>decide (x<=y))).Perm (intKeys D):=(List.mergeSort_perm ss _).trans hp;obtain⟨hlen,a,c,rfl,hat,hnew⟩:=Bj.of_owns (B:=_) hrow;have hle:ss.length<=nn:=by
  have h1:=hp.length_eq;have h2:(intKeys D).length=Maps.size D:=by
   obtain⟨es,rfl,_⟩:=hown.keysOf;simp[intKeys,Maps.size]
  omega
 have tr:∀a b c:Int,decide (a<=b)=true->decide (b<=c)=true->decide (a<=c)=true:=fun a b c h1 h2=>by simp only[decide_eq_true_eq]at *;omega
 have tO:∀a b:Int,(decide (a<=b)||decide (b<=a))=true:=fun a b=>by simp only[Bool.or_eq_true,decide_eq_true_eq];omega
 have hsorted:=(List.pairwise_mergeSort (le:=fun x y=>decide (x<=y)) tr tO ss).imp (fun{a b} h=>by simpa using h:∀{a b:Int},_->a<=b);refine⟨a,ss.length,c,nth (ss.mergeSort (fun x y=>decide (x<=y))),rfl,hle,hat,fun x=>?_,?_,fun i hi=>?_,fun x e=>by have:=hnew x e;simp at this;omega,?_⟩
 ·rw[<-hall x,<-hmem x,<-hq.mem_iff];constructor
  ·rintro⟨i,hi,rfl⟩;have hi':i<(ss.mergeSort (fun x y=>decide (x<=y))).length:=(by omega);simp only[nth,List.getD_eq_getElem?_getD,List.getElem?_eq_getElem hi',Option.getD_some];exact List.getElem_mem hi'
  ·intro hx;obtain⟨i,hi,rfl⟩:=List.mem_iff_getElem.1 hx;exact⟨i,by omega,by simp only[nth,List.getD_eq_getElem?_getD,List.getElem?_eq_getElem hi,Option.getD_some]⟩
 ·have:=Ra hsorted (hq.nodup_iff.2 hnd);rw[hlen]at this;exact this
 ·have hi':i<(ss.mergeSort (fun x y=>decide (x<=y))).length:=by omega
  refine intKeys_wf hown underlying2 _ (hq.mem_iff.1 ?_);simp only[nth,List.getD_eq_getElem?_getD,List.getElem?_eq_getElem hi',Option.getD_some];exact List.getElem_mem hi'
 ·exact(Be w _).trans (hb.mono (by simp))
theorem Wk(b nn:Nat)(m:Int->Option Int)(w:World)(hm:Bo w b nn m):
 Calls prog 181 #[.map (some b)] w fun e w'=>e= .returned (.map (some w))/\Jv w' w nn (fun x=>(m x).isSome)/\Below w w w':=by
 obtain⟨D,hown,hall⟩:=hm.keys;have hcon:=AnyW.maps_Clone_owns Tryz.cloneA 2 (plainElem prog 2) b nn D w hown;change Calls prog 181 _ _ _ at hcon;refine hcon.mono ?_;rintro e w' ⟨rfl,h1,_,hB⟩;exact⟨rfl,⟨D,h1,hall⟩,hB⟩
theorem WQ{w':World}{b' n':Nat}{D D':DataW Unit}(h:w.ownsMap prog 2 (plainElem prog 2) b n D)(h':w'.ownsMap prog 2 (plainElem prog 2) b' n' D')(k:Lit):
 Maps.has (Lib.mergeD D D') k=(Maps.has D k||Maps.has D' k):=by
 obtain⟨es,rfl,_,hk⟩:=h'.entries Hy;exact has_foldPut k es D (h.tidy Hy).isMap hk
theorem XO(bd bs nd ns:Nat)(p q:Int->Bool)(w:World)(hd:Jv w bd nd p)(hs:Jv w bs ns q)(hne:bd≠bs)(hroom:nd+ns<=4194304):
 Calls prog 182 #[.map (some bd),.map (some bs)] w fun e w'=>e= .returned (.tuple #[])/\Jv w' bd (nd+ns) (fun x=>p x||q x)/\w.grownBy w' (some bd):=by
 obtain⟨D,hD,hp⟩:=hd;obtain⟨E,hE,hq⟩:=hs;have hsz:=hE.size_le;have hcon:=AnyX.maps_Copy Tryz.copyA Hy (plainElem prog 2) bd bs nd ns D E w hD hE hne (by unfold maxLen;omega);change Calls prog 182 _ _ _ at hcon;refine hcon.mono ?_;rintro e w' ⟨rfl,h1,_,hg⟩;exact⟨rfl,⟨_,h1.mono (by omega),fun x=>by rw[WQ hD hE,hp,hq]⟩,hg⟩
theorem Rw(b1:Int)(c1 n1:Nat)(m1:Int->Option Int)(b2:Int)(c2 n2:Nat)(m2:Int->Option Int)(w:World)(h1:Bo w c1 n1 m1)(h2:Bo w c2 n2 m2)(hn:n1+n2<=4194304):
 Calls prog 164 #[.agg #[.int .i64 b1,.map (some c1)],.agg #[.int .i64 b2,.map (some c2)]] w fun e w'=>∃(a:Option Addr) (n cap:Nat) (h:Nat->Int),e= .returned (.slice a n cap)/\n<=n1+n2/\
  Bj w' a n h/\(∀x,(∃i,i<n/\h i=x)↔((m1 x).isSome||(m2 x).isSome)=true)/\(∀j,j<n->∀i,i<j->h i<h j)/\(∀i,i<n->(Lit.int .i64 (h i)).wf=true)/\Below w w w':=by
 have hb0:=(Be w (.cells #[.int .i64 b1,.map (some c1)] 216)).alloc (by simp) (.cells #[.int .i64 b2,.map (some c2)] 216);have lt2:=h2.lt;have e1:=h1.below hb0;go_enter func164,ntmps164
 go_wp2_with fail
 refine(Wk _ _ _ _ e1).mono ?_;rintro e w1 ⟨rfl,k1,hb1⟩;obtain⟨q1,_⟩:=JK hb1;have z1:w.heap.size+1+1<=w1.heap.size:=by have:=hb1.size;simpa using this
 have B1:Below w w w1:=hb0.trans (hb1.mono (by simp;omega));have e2:=(h2.below B1).keys;simp at k1;go_wp2_with fail
 refine(XO _ _ _ _ _ _ _ k1 e2 (by omega) hn).mono ?_;rintro e w2 ⟨rfl,k2,hg2⟩;have G2:Below (w.heap.size+1+1) w1 w2:=(Below.refl _ _).grown hg2 z1 (fun k e=>by cases e;exact Nat.le_refl _);have B2:Below w w w2:=B1.trans (G2.mono (by omega));clear q1;go_wp2_with fail
 refine(XC _ _).mono ?_;rintro e w3 ⟨rfl,rfl⟩;go_wp2_with fail
 refine(UR _ _ _ _ k2 hn).mono ?_;rintro e w4 ⟨a,n,cap,h,rfl,hle,hat,hmem,hris,hwf,_,hb4⟩;go_wp2;go_ret;exact⟨a,n,cap,h,rfl,hle,hat,hmem,hris,hwf,B2.trans (hb4.mono B2.size)⟩
variable {W W':World}{P:Nat}{x y:Value}{a:Addr}
theorem Ms{f g:Nat->Int}{n:Nat}{x:Int}(h:(look f g n x).isSome=true):∃i,i<n/\f i=x:=by
 induction n with
 |zero=>simp[look]at h
 |succ n ih=>
  simp only[look]at h;by_cases e:f n=x
  ·exact⟨n,by omega,e⟩
  ·rw[if_neg e]at h;obtain⟨i,hi,e⟩:=ih h;exact⟨i,by omega,e⟩
theorem QG(base:Int)(c:Nat)(n:Nat)(f g:Nat->Int)(x:Int)(w:World)(hm:Bo w c n (look f g n))(hx:(Lit.int .i64 x).wf=true):
 Calls prog 165 #[.agg #[.int .i64 base,.map (some c)],.int .i64 x] w fun e w'=>e= .returned (.int .i64 (Ey base n f g x))/\Below w w w':=bH base c n (look f g n) x w hm hx
def B9(W:World)(P:Nat)(x y:Value):Prop:=W.heap[P]? =some (.cells #[x,y] 216)
theorem B9.new(W:World)(x y:Value):B9 (W.alloc (.cells #[x,y] 216)) W x y:=blk_alloc_new _ _
theorem B9.lt(h:B9 W P x y):P<W.heap.size:=(Array.getElem?_eq_some_iff.1 h).1
theorem B9.alloc(h:B9 W P x y)(o:Obj):B9 (W.alloc o) P x y:=(blk_alloc_lt _ _ _ h.lt).trans h
theorem B9.drew(h:B9 W P x y):B9 W.drew P x y:=h
theorem B9.below(h:B9 W P x y)(hb:Below W W W'):B9 W' P x y:=(hb.block P h.lt).trans h
theorem B9.other(h:B9 W P x y)(hne:P≠a.block)(v:Value):B9 (W.setCell a v) P x y:=(blk_setCell_other _ _ _ _ hne).trans h
theorem B9.set0(h:B9 W P x y)(v:Value):B9 (W.setCell ⟨P,0,none⟩ v) P v y:=by
 unfold B9 at *;simp[World.setCell,Array.getElem?_modify,h]
theorem B9.set1(h:B9 W P x y)(v:Value):B9 (W.setCell ⟨P,1,none⟩ v) P x v:=by
 unfold B9 at *;simp[World.setCell,Array.getElem?_modify,h]
theorem B9.cells(h:B9 W P x y):W.cell? ⟨P,0,none⟩=some x/\W.cell? ⟨P,1,none⟩=some y:=by
 unfold B9 at h;simp[World.cell?,h]
theorem B9.new'(h:P=W.heap.size):B9 (W.alloc (.cells #[x,y] 216)) P x y:=by rw[h];exact B9.new _ _ _
def Gn(W:World)(P:Nat):Prop:=∃x y,B9 W P x y
theorem Gn.new'(h:P=W.heap.size):Gn (W.alloc (.cells #[x,y] 216)) P:=⟨x,y,B9.new' h⟩
theorem Gn.alloc(h:Gn W P)(o:Obj):Gn (W.alloc o) P:=by obtain⟨x,y,h⟩:=h;exact⟨x,y,h.alloc o⟩
theorem Gn.drew(h:Gn W P):Gn W.drew P:=h
theorem Gn.below(h:Gn W P)(hb:Below W W W'):Gn W' P:=by obtain⟨x,y,h⟩:=h;exact⟨x,y,h.below hb⟩
theorem Gn.other(h:Gn W P)(hne:P≠a.block)(v:Value):Gn (W.setCell a v) P:=by obtain⟨x,y,h⟩:=h;exact⟨x,y,h.other hne v⟩
theorem B9.set01(h:Gn W P)(u v:Value):B9 ((W.setCell ⟨P,0,none⟩ u).setCell ⟨P,1,none⟩ v) P u v:=by obtain⟨x,y,h⟩:=h;exact(h.set0 u).set1 v
theorem cG{a b:Nat}(h:a+3<b):a<b/\a+1<b/\b≠a/\b≠a+1/\b+1≠a:=by omega
variable {W W':World}
structure Bu(W W':World):Prop where
 size:W.heap.size<=W'.heap.size
 same:∀(k:Nat) (o:Obj),W.heap[k]? =some o->(o.isCells=true∨o.isWalk=true)->W'.heap[k]? =some o
theorem Bu.refl(W:World):Bu W W:=⟨Nat.le_refl _,fun _ _ h _=>h⟩
theorem Bu.trans{A B C:World}(h:Bu A B)(k:Bu B C):Bu A C:=
 ⟨Nat.le_trans h.size k.size,fun i o hi ho=>k.same i o (h.same i o hi ho) ho⟩
theorem Bu.book{w:World}(W:World)(l:Nat)(o o':Obj)(_:w.heap.size<=l)(h:W.heap[l]? =some o)(hc:o.isCells=false)(hw:o.isWalk=false):Bu W (W.putObj l o'):=
 ⟨by simp,fun k o'' hk ho=>by
   by_cases e:k=l
   ·subst e;rw[h]at hk;cases hk;rw[hc,hw]at ho;simp at ho
   ·exact(World.putObj_heap_other e).trans hk⟩
theorem Bu.of_below(h:Below W W W'):Bu W W':=
 ⟨h.size,fun k _ hk _=>(h.block k (Array.getElem?_eq_some_iff.1 hk).1).trans hk⟩
theorem Bu.cell(h:Bu W W'){a:Addr}{v:Value}(hv:W.cell? a=some v):W'.cell? a=some v:=by
 have hv':=hv;unfold World.cell? at hv;cases ho:W.heap[a.block]? with
 |none=>simp[ho]at hv
 |some o=>
  have hc:o.isCells=true:=by cases o<;>simp_all[Obj.isCells]
  have:=h.same _ _ ho (.inl hc);exact(World.cell?_of_block (this.trans ho.symm)).trans hv'
theorem Bu.map(h:Bu W W'){b n:Nat}{m:Int->Option Int}(hm:Bo W b n m):Bo W' b n m:=by
 have hm':=hm;obtain⟨D,⟨es,clock,hb,F,hs,hD⟩,r⟩:=hm;exact hm'.of_block ((h.same b _ hb (.inr rfl)).trans hb.symm)
theorem GV(h:Below W W W'):W.grownBy W' none:=⟨h.os,h.tape,h.output,h.size,fun k hk _=>h.block k hk⟩
open Go
section
variable {F:Fence}{n:Nat}{P:Program}{ops:Array Oper}{Q:Exit->Act->World->Prop}{md:Region.Mode}{S:World->Prop}{X:List Nat}
def FK(P:Program)(ops:Array Oper)(S:World->Prop)(o:Oper)(v:Value)(a:Act):Prop:=YieldsIf P ops S o v a/\∀w,o.about P w a.eval=none
theorem FK.wpOpIn{i:Nat}{o:Oper}{v:Value}{a:Act}(hro:F.round=none)(hi:ops[i]? =some o)(hy:FK P ops S o v a)
 {K:Act->World->Prop}{w:World}(hS:S w)(h:K (a.put o.dst v) w):wpOpIn F n P ops Q i K a w:=by
 unfold Go.wpOpIn;simp only[hi];have hab:∀f,o.about P w a.eval=some f->F.fn f:=fun f hf=>by rw[hy.2 w]at hf;cases hf
 rcases hy.1 with⟨hw,hv⟩|⟨hw,rfl⟩
 ·simp only[hw,if_true,Oper.wpIn,hro,Oper.semAt_none,hv w hS,Oper.uponIn];exact⟨hab,h⟩
 ·simp only[hw,Bool.false_eq_true,if_false];exact⟨hab,h⟩
theorem FK.of_same{o:Oper}{v:Value}{a a':Act}(hy:FK P ops S o v a)(he:execOp a'.eval o=execOp a.eval o)
 (hw:Region.wanted o (yielded ops a'.tmps)=Region.wanted o (yielded ops a.tmps))(hb:∀w,o.about P w a'.eval=o.about P w a.eval):FK P ops S o v a':=
 ⟨hy.1.of_same he hw,fun w=>by rw[hb w];exact hy.2 w⟩
theorem Tw{j:Nat}{oi oj:Oper}{v:Value}(hro:F.round=none)(hj:ops[j]? =some oj)(hap:oi.apart ops oj=true)
 (hsi:∀cs b,oi.op≠ .select cs b)(hsj:∀cs b,oj.op≠ .select cs b)
 (hQ:∀c a w,Q (.panic c) (a.put oi.dst v) w->Q (.panic c) a w){K:Act->World->Prop}{a:Act}{w:World}
 (hy:FK P ops S oi v a)(h:wpOpIn F n P ops Q j K (a.put oi.dst v) w):
 wpOpIn F n P ops Q j (fun a' w'=>FK P ops S oi v a'/\K (a'.put oi.dst v) w') a w:=by
 obtain⟨h1,h2,h3⟩:=Oper.apart_spec hap;have keep:∀(a:Act),FK P ops S oi v a->∀u,FK P ops S oi v (a.put oj.dst u):=fun a hy u=>
  hy.of_same (execOp_put oi hsi a oj.dst u h3) (wanted_put oi a oj.dst u h3) (fun w=>about_put oi w a oj.dst u h3)
 have keepD:∀d,FK P ops S oi v {a with defers:=d::a.defers}:=fun d=>hy.of_same rfl rfl (fun _=>rfl);unfold wpOpIn at *;simp only[hj]at *;rw[wanted_put oj a oi.dst v h1,about_put oj w a oi.dst v h1]at h;split
 ·rename_i hw;simp only[hw,if_true]at h;unfold Oper.wpIn at *;rw[about_put oj w a oi.dst v h1]at h;refine⟨h.1,?_⟩;have h:=h.2;rw[hro,Oper.semAt_none,execOp_put oj hsj a oi.dst v h1]at h;rw[hro,Oper.semAt_none];generalize (execOp a.eval oj).run P w=r at *;cases r with
  |ok x w'=>
   cases x<;>simp only[Oper.uponIn]at h ⊢;case value u=>exact⟨keep a hy u,by rw[<-Act.put_comm a v u h2];exact h⟩
   case skip=>exact⟨keep a hy _,by rw[<-Act.put_comm a v undef h2];exact h⟩
   case defer d=>
    refine⟨keep _ (keepD d) _,?_⟩;rw[<-Act.put_comm _ v undef h2,<-Act.put_defers];exact h
   case enter f args=>
    refine⟨h.1,CallsIn.mono h.2 fun e w'' he=>?_⟩;cases e with
    |returned u=>exact⟨keep a hy u,by rw[<-Act.put_comm a v u h2];exact he⟩
    |panicked c=>exact hQ _ _ _ he
    |outgrown=>exact he
   case row row args=>exact⟨h.1,RowsIn.mono h.2 fun u w'' he=>⟨keep a hy u,by rw[<-Act.put_comm a v u h2];exact he⟩⟩
   case round l f tmps assign body=>
    refine⟨h.1,RoundIn.mono h.2 fun e w'' he=>?_⟩;cases e with
    |returned u=>exact⟨keep a hy u,by rw[<-Act.put_comm a v u h2];exact he⟩
    |panicked c=>exact hQ _ _ _ he
    |outgrown=>exact he
  |halt x w'=>
   cases x<;>simp only[Oper.uponIn]at h ⊢;case panic u=>exact hQ _ _ _ h
 ·rename_i hw;simp only[hw]at h;exact⟨h.1,keep a hy _,by rw[<-Act.put_comm a v undef h2];exact h.2⟩
def AnyF(F:Fence)(n:Nat)(P:Program)(md:Region.Mode)(ops:Array Oper)(Q:Exit->Act->World->Prop)(S:World->Prop)(X:List Nat)(f:Nat)(L:Array Bool)(a:Act)(w:World):Prop:=
 match f with
 |0=>Region.ready md ops L=[]/\Q .normal a w
 |f+1=>(Region.ready md ops L=[]->Q .normal a w)/\
  ∀i∈Region.ready md ops L,wpOpIn F n P ops Q i (fun a' w'=>(X.contains i=false->S w')/\AnyF F n P md ops Q S X f (L.setIfInBounds i true) a' w') a w
theorem AnyF.any{f:Nat}:∀{L:Array Bool}{a:Act}{w:World},AnyF F n P md ops Q S X f L a w->wpAnyIn F n P md ops Q f L a w:=by
 induction f with
 |zero=>intro L a w h;exact h
 |succ f ih=>intro L a w h;exact⟨h.1,fun i hi=>wpOpIn_mono (fun _ _ k=>ih k.2) (h.2 i hi)⟩
def JC(md:Region.Mode)(ops:Array Oper)(L:Array Bool):Prop:=
 ∀k o,ops[k]? =some o->L.getD k false=true->∀e∈o.after,Region.binds md e=true->L.getD e.on false=true
def leads(md:Region.Mode)(ops:Array Oper):Nat->Nat->Nat->Bool
 |0,_,_=>false
 |f+1,x,i=>match ops[x]? with
  |some o=>o.after.any (fun e=>Region.binds md e&&(e.on==i||leads md ops f e.on i))
  |none=>false
theorem QN{L:Array Bool}(hc:JC md ops L){i:Nat}(f:Nat):∀x,leads md ops f x i=true->(∀o,ops[x]? =some o->∀e∈o.after,Region.binds md e=true->L.getD e.on false=true)->L.getD i false=true:=by
 induction f with
 |zero=>intro x h _;simp[leads]at h
 |succ f ih=>
  intro x h hx;unfold leads at h;cases ho:ops[x]? with
  |none=>rw[ho]at h;simp at h
  |some o=>
   rw[ho]at h;dsimp only at h;obtain⟨e,he,hb⟩:=Array.any_eq_true'.1 h;simp only[Bool.and_eq_true,Bool.or_eq_true,beq_iff_eq]at hb;have hl:=hx o ho e he hb.1;rcases hb.2 with q|q
   ·rw[<-q];exact hl
   ·exact ih e.on q (fun o' ho' e' he' hb'=>hc e.on o' ho' hl e' he' hb')
theorem JC.set{L:Array Bool}(hc:JC md ops L){j:Nat}(hj:j∈Region.ready md ops L):JC md ops (L.setIfInBounds j true):=by
 intro k o ho hk e he hb;obtain⟨hun,oj,hoj,hall⟩:=mem_ready.1 hj;by_cases q:j=k
 ·subst q;rw[hoj]at ho;cases ho;exact getD_set_true (hall e he hb)
 ·rw[getD_set_ne false q]at hk;exact getD_set_true (hc k o ho hk e he hb)
theorem Mz{i:Nat}{L:Array Bool}(h:i∈Region.ready md ops L):L.getD i false=false:=by
 have h0:=(mem_ready.1 h).1;by_cases hl:i<L.size
 ·simp[hl]at h0 ⊢;exact h0
 ·simp[Array.getElem?_eq_none (Nat.le_of_not_lt hl)]
theorem AnyF.takes{i:Nat}{oi:Oper}{v:Value}(hro:F.round=none)(hi:ops[i]? =some oi)(hs:Region.noSelect ops=true)
 (hX:∀x,X.contains x=true->leads md ops ops.size x i=true)
 (hQ:∀c a w,Q (.panic c) (a.put oi.dst v) w->Q (.panic c) a w)(f:Nat):∀{L:Array Bool}{a:Act}{w:World},JC md ops L->
 (∀j oj,ops[j]? =some oj->j≠i->L.getD j true=false->(∀e∈oj.after,Region.binds md e=true->e.on≠i)->oi.apart ops oj=true)->
 i∈Region.ready md ops L->FK P ops S oi v a->S w->AnyF F n P md ops Q S X f (L.setIfInBounds i true) (a.put oi.dst v) w->AnyF F n P md ops Q S X (f+1) L a w:=by
 have sel:=Region.noSelect_spec hs;induction f with
 |zero=>
  intro L a w _ _ hr hy hS H;refine⟨fun e=>absurd hr (by rw[e];simp),fun j hj=>?_⟩;by_cases e:j=i
  ·subst e;exact hy.wpOpIn hro hi hS ⟨fun _=>hS,H⟩
  ·have:=ready_mono hj e;rw[H.1]at this;simp at this
 |succ f ih=>
  intro L a w hcl hfree hr hy hS H;refine⟨fun e=>absurd hr (by rw[e];simp),fun j hj=>?_⟩;by_cases e:j=i
  ·subst e;exact hy.wpOpIn hro hi hS ⟨fun _=>hS,H⟩
  ·obtain⟨hun,oj,hoj,hall⟩:=mem_ready.1 hj;have un:=Mz hr;have apart:∀x∈oj.after,Region.binds md x=true->x.on≠i:=fun x hx hb hq=>by
    have:=hall x hx hb;rw[hq,un]at this;cases this
   have hjX:X.contains j=false:=by
    cases hc:X.contains j
    ·rfl
    ·have:=QN hcl ops.size j (hX j hc) (fun o ho e he hb=>by rw[hoj]at ho;cases ho;exact hall e he hb);rw[un]at this;cases this
   refine wpOpIn_mono (fun a' w' k=>⟨fun _=>k.2.1 hjX,?_⟩) (Tw hro hoj (hfree j oj hoj e hun apart) (fun cs b=>sel i oi cs b hi) (fun cs b=>sel j oj cs b hoj) hQ hy (H.2 j (ready_mono hj e)));refine ih (hcl.set hj) (fun k ok hk hki hkl hkn=>hfree k ok hk hki ?_ hkn) (ready_mono hr (Ne.symm e)) k.1 (k.2.1 hjX) ?_
   ·by_cases q:j=k
    ·subst q;exact hun
    ·rw[getD_set_ne true q]at hkl;exact hkl
   ·rw[Array.setIfInBounds_comm _ _ e];exact k.2.2
def MV(md:Region.Mode)(ops:Array Oper)(L:Array Bool):Bool:=
 (List.range ops.size).all fun k=> !(L.getD k false)||match ops[k]? with
   |some o=>o.after.all (fun e=> !(Region.binds md e)||L.getD e.on false)
   |none=>true
theorem Sw{L:Array Bool}(h:MV md ops L=true):JC md ops L:=by
 intro k o ho hk e he hb;unfold MV at h;rw[List.all_eq_true]at h;have:=h k (List.mem_range.2 (Array.getElem?_eq_some_iff.1 ho).1);rw[hk,ho]at this;simp only[Bool.not_true,Bool.false_or]at this;have:=(Array.all_eq_true'.1 this) e he;rw[hb]at this;simpa using this
theorem AnyF.takeD{i d:Nat}{oi:Oper}(v:Value){f:Nat}{L:Array Bool}{a:Act}{w:World}(hro:F.round=none)(hi:ops[i]? =some oi)(hd:oi.dst=some d)(hs:Region.noSelect ops=true)(hf:Region.free md ops L i=true)
 (hr:(Region.ready md ops L).contains i=true)(hcl:MV md ops L=true)(hX:X.all (fun x=>leads md ops ops.size x i)=true)(hQ:∀c a w,Q (.panic c) (a.put (some d) v) w->Q (.panic c) a w)(hS:S w)
 (hy:YieldsIf P ops S oi v a)(hab:∀w,oi.about P w a.eval=none)(h:AnyF F n P md ops Q S X f (L.setIfInBounds i true) (a.put (some d) v) w):AnyF F n P md ops Q S X (f+1) L a w:=
 AnyF.takes (v:=v) hro hi hs (fun x hx=>List.all_eq_true.1 hX x (by simpa using hx)) (by rw[hd];exact hQ) f (Sw hcl) (Region.free_spec hi hf) (by simpa using hr) ⟨hy,hab⟩ hS (by rw[hd];exact h)
theorem AnyF.skip{i d:Nat}{oi:Oper}{f:Nat}{L:Array Bool}{a:Act}{w:World}(hro:F.round=none)(hi:ops[i]? =some oi)(hd:oi.dst=some d)(hs:Region.noSelect ops=true)(hf:Region.free md ops L i=true)
 (hr:(Region.ready md ops L).contains i=true)(hcl:MV md ops L=true)(hX:X.all (fun x=>leads md ops ops.size x i)=true)(hQ:∀c a w,Q (.panic c) (a.put (some d) undef) w->Q (.panic c) a w)(hS:S w)
 (hun:Region.wanted oi (yielded ops a.tmps)=false)(hab:∀w,oi.about P w a.eval=none)(h:AnyF F n P md ops Q S X f (L.setIfInBounds i true) (a.put (some d) undef) w):AnyF F n P md ops Q S X (f+1) L a w:=
 AnyF.takeD undef hro hi hd hs hf hr hcl hX hQ hS (Or.inr ⟨hun,rfl⟩) hab h
theorem AnyF.one{i:Nat}{o:Oper}{f:Nat}{L:Array Bool}{a:Act}{w:World}(hi:ops[i]? =some o)(hr:Region.ready md ops L=[i])
 (h:∀K':Act->World->Prop,Hid (∀a w,(X.contains i=false->S w)->AnyF F n P md ops Q S X f (L.setIfInBounds i true) a w->K' a w)->if Region.wanted o (yielded ops a.tmps)=true then Oper.wpIn F n P o a w K' Q else(∀f,o.about P w a.eval=some f->F.fn f)/\K' (a.put o.dst undef) w):AnyF F n P md ops Q S X (f+1) L a w:=
 ⟨fun e=>absurd (hr.symm.trans e) (by simp),fun j hj=>by
   rw[hr]at hj;obtain rfl:j=i:=by simpa using hj
   exact wpOpIn_step hi (fun K' hK=>h K' (fun a w h1 h2=>hK a w ⟨h1,h2⟩))⟩
theorem AnyF.done{f:Nat}{L:Array Bool}{a:Act}{w:World}(hr:Region.ready md ops L=[])(h:Q .normal a w):AnyF F n P md ops Q S X f L a w:=by
 cases f with
 |zero=>exact⟨hr,h⟩
 |succ f=>exact⟨fun _=>h,fun i hi=>by rw[hr]at hi;simp at hi⟩
theorem AnyF.region{id:Nat}{a:Act}{w:World}(S:World->Prop)(X:List Nat)(hm:P.follows .mixedOrders=true)(h:AnyF F n P .any ops Q S X ops.size (Array.replicate ops.size false) a w.drew):(Code.region id ops true).wpIn F n P Q a w:=
 wpIn_region_any hm h.any
end
end Go.Proofs.YtefoofaocbjdoaaGreatDoor
