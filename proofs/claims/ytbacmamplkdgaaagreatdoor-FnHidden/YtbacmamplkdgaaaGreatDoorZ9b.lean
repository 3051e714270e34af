import Derived.Test.YtbacmamplkdgaaaGreatDoorNC3b
import Derived.Test.YtbacmamplkdgaaaGreatDoorZ2b
import Derived.Test.YtbacmamplkdgaaaGreatDoorZ0b
import Derived.Test.YtbacmamplkdgaaaGreatDoorZ3b
import Derived.Test.YtbacmamplkdgaaaGreatDoorZ1b
import Derived.Test.YtbacmamplkdgaaaGreatDoorZ5b
set_option maxRecDepth 100000
set_option maxHeartbeats 1000000
namespace Go.Proofs.YtbacmamplkdgaaaGreatDoor
open Go Go.RowKit Go.Deep Go.Maps
structure StepV where
 th:Int
 kind:Int
 id:Int
 «to»:Int
 cat:Int
 data:ByteArray
 b1:Int
 c1:CatL
 b2:Int
 c2:CatL
def StepV.cells(s:StepV):Array Value:=#[.int .i64 s.th,.int .i64 s.kind,.int .i64 s.id,.int .i64 s.to,.int .i64 s.cat,.string s.data,.int .i64 s.b1,.slice s.c1.a s.c1.n s.c1.k,.int .i64 s.b2,.slice s.c2.a s.c2.n s.c2.k]
def StepV.at(w:World)(s:StepV):Prop:=s.c1.at w∧s.c2.at w∧s.data.size≤maxLen
theorem StepV.at.below{w w':World}{s:StepV}(h:s.at w)(hb:Below w.heap.size w w'):s.at w':=⟨h.1.below hb,h.2.1.below hb,h.2.2⟩
theorem flat_set{α:Type}{f:α→List Value}{c:Nat}(hl:∀x,(f x).length=c):∀{l:List α}{t i:Nat}{x:α}{u:Value} (ht:t<l.length),i<c→f x=(f l[t]).set i u→((l.map f).flatten).set (t*c+i) u=((l.set t x).map f).flatten
 |[],t,_,_,_,ht,_,_=>absurd ht (Nat.not_lt_zero t)
 |y::r,0,i,x,u,_,hi,h=>by
  show(f y++(r.map f).flatten).set (0*c+i) u=f x++(r.map f).flatten;rw[Nat.zero_mul,Nat.zero_add,List.set_append_left _ _ (by rw[hl];exact hi)];have h':f x=(f y).set i u:=h;rw[h']
 |y::r,t+1,i,x,u,ht,hi,h=>by
  show(f y++(r.map f).flatten).set ((t+1)*c+i) u=f y++((r.set t x).map f).flatten;have e:(t+1)*c+i=(f y).length+(t*c+i):=by rw[hl,Nat.succ_mul];omega
  rw[e,List.set_append_right _ _ (by omega),Nat.add_sub_cancel_left];rw[flat_set hl (l:=r) (t:=t) (x:=x) (by simpa using ht) hi h]
theorem ThrV.cs_len(x:ThrV):x.cs.length=7:=rfl
theorem ObjV.cs_len(x:ObjV):x.cs.length=10:=rfl
theorem mem_set{α:Type}{l:List α}{t:Nat}{x y:α}(h:y∈l.set t x):y=x∨y∈l:=by
 rcases List.mem_or_eq_of_mem_set h with h|h
 ·exact .inr h
 ·exact .inl h
theorem KSt.setT{w:World}{B g ca:Nat}{vo:Value}{lt:List ThrV}{lo:List ObjV}(h:KSt w B (.slice (some ⟨g,0,none⟩) lt.length ca) vo lt lo){t i:Nat}{x:ThrV}{u:Value}(ht:t<lt.length)(hi:i<7)(hcs:x.cs=(lt[t]).cs.set i u)(hx:x.new B w)(hc:x.own.n≤x.own.k∧x.own.k≤maxLen):
 KSt (w.setCell ⟨g,t*7+i,none⟩ u) B (.slice (some ⟨g,0,none⟩) (lt.set t x).length ca) vo (lt.set t x) lo∧(∃cur,Blk w g (.cells cur 75))∧B≤g:=by
 have hg:∃cur,Blk w g (.cells cur 75):=by
  rcases h.t.2 with⟨hv,_⟩|⟨g',cap,cur,hv,_,hgg,_⟩
  ·cases hv
  ·cases hv;exact⟨cur,hgg⟩
 have hBg:B≤g:=(World.ownsRow.lt h.t g rfl).1;obtain⟨cur,hcur⟩:=hg;have kl:=keeps_set (i:=t*7+i) hcur (by decide) u;have el:(lt.set t x).length=lt.length:=by simp
 have ho:=(World.ownsRow.stored h.t (t*7+i) u).1;refine⟨⟨?_,h.o.set hcur (by decide) u,fun y hy=>?_,fun y hy=>(h.on y hy).keeps kl,fun y hy=>?_,h.oc⟩,⟨cur,hcur⟩,hBg⟩
 ·unfold OwnT;rw[el];have e:=flat_set (f:=ThrV.cs) ThrV.cs_len (l:=lt) (t:=t) (x:=x) (u:=u) ht hi hcs;unfold cells7;rw[←e];exact ho
 ·rcases mem_set hy with rfl|hy
  ·exact hx.keeps kl
  ·exact(h.tn y hy).keeps kl
 ·rcases mem_set hy with rfl|hy
  ·exact hc
  ·exact h.tc y hy
theorem KSt.setO{w:World}{B g co:Nat}{vt:Value}{lt:List ThrV}{lo:List ObjV}(h:KSt w B vt (.slice (some ⟨g,0,none⟩) lo.length co) lt lo){t i:Nat}{x:ObjV}{u:Value}(ht:t<lo.length)(hi:i<10)(hcs:x.cs=(lo[t]).cs.set i u)(hx:x.new B w)(hc:x.items.n≤x.items.k∧x.items.k≤maxLen):
 KSt (w.setCell ⟨g,t*10+i,none⟩ u) B vt (.slice (some ⟨g,0,none⟩) (lo.set t x).length co) lt (lo.set t x)∧(∃cur,Blk w g (.cells cur 42))∧B≤g:=by
 have hg:∃cur,Blk w g (.cells cur 42):=by
  rcases h.o.2 with⟨hv,_⟩|⟨g',cap,cur,hv,_,hgg,_⟩
  ·cases hv
  ·cases hv;exact⟨cur,hgg⟩
 have hBg:B≤g:=(World.ownsRow.lt h.o g rfl).1;obtain⟨cur,hcur⟩:=hg;have kl:=keeps_set (i:=t*10+i) hcur (by decide) u;have el:(lo.set t x).length=lo.length:=by simp
 have ho:=(World.ownsRow.stored h.o (t*10+i) u).1;refine⟨⟨h.t.set hcur (by decide) u,?_,fun y hy=>(h.tn y hy).keeps kl,fun y hy=>?_,h.tc,fun y hy=>?_⟩,⟨cur,hcur⟩,hBg⟩
 ·unfold OwnOb;rw[el];have e:=flat_set (f:=ObjV.cs) ObjV.cs_len (l:=lo) (t:=t) (x:=x) (u:=u) ht hi hcs;unfold cells10;rw[←e];exact ho
 ·rcases mem_set hy with rfl|hy
  ·exact hx.keeps kl
  ·exact(h.on y hy).keeps kl
 ·rcases mem_set hy with rfl|hy
  ·exact hc
  ·exact h.oc y hy
theorem getD_of_some{m:Int→Option Int}{x base c:Int}{D:DataW Unit}(h1:Maps.has D (.int .i64 x)=(m x).isSome)(h2:∀v,m x=some v→D.atKey (.int .i64 x) (.lit (.int .i64 0))= .lit (.int .i64 v))(hat:D.atKey (.int .i64 x) (.lit (.int .i64 0))= .lit (.int .i64 c)):
 (Maps.has D (.int .i64 x)=true→(m x).getD base=c)∧(Maps.has D (.int .i64 x)=false→(m x).getD base=base):=by
 cases hm:m x with
 |none=>simp[h1,hm]
 |some v=>
  have:=(h2 v hm).symm.trans hat;simp at this;simp[h1,hm,this]
theorem of_any(base:Int)(c n:Nat)(m:Int→Option Int)(x:Int)(w:World)(hm:MapIs w c n m)(hx:(Lit.int .i64 x).wf=true):
 Calls Tryz.prog 53 #[.agg #[.int .i64 base,.map (some c)],.int .i64 x] w fun e w'=>e= .returned (.int .i64 ((m x).getD base))∧Below w.heap.size w w':=by
 have hkey:keyOf Tryz.prog 2 (.int .i64 x)=some (.int .i64 x):=keyOf_int_mk Tryz.underlying2 hx;obtain⟨D,hown,hD,hall⟩:=hm.alloc (.cells #[.int .i64 base,.map (some c)] 91);obtain⟨h1,h2⟩:=hall x;clear hall;go_enter Tryz.func53,Tryz.ntmps53
 have HH:Hid (∀(c:Int),D.atKey (.int .i64 x) (.lit (.int .i64 0))= .lit (.int .i64 c)→(Maps.has D (.int .i64 x)=true→(m x).getD base=c)∧(Maps.has D (.int .i64 x)=false→(m x).getD base=base)):=fun c hat=>getD_of_some h1 h2 hat;clear h1 h2;go_wp2_with(at_lookup;refine wpList_lookup_own_ok_int _ rfl _ _ 89 rfl 2 2 .i64 keyed2 Tryz.underlying89 Tryz.underlying2 (zero2 _) c n _ rfl hown _ _ rfl hkey ?_;intro cc hat hwc)
 ·go_ret;have t:Maps.has D (.int .i64 x)=true:=by assumption
  exact⟨ret_int ((HH.out _ hat).1 t).symm,(Below.refl _ _).alloc (Nat.le_refl _) _⟩
 ·go_ret;have t:Maps.has D (.int .i64 x)=false:=by assumption
  exact⟨ret_int ((HH.out _ hat).2 t).symm,(Below.refl _ _).alloc (Nat.le_refl _) _⟩
def levOf(base:Int)(n:Nat)(f g:Nat→Int)(x:Int):Int:=(look f g n x).getD base
theorem rising{base:Int}{n:Nat}{f g:Nat→Int}(h:∀i,i<n→catOk base f g i=true):∀j,j<n→∀i,i<j→f i<f j:=by
 intro j;induction j with
 |zero=>intro _ i hi;omega
 |succ j ih=>
  intro hj i hi;have h1:=(catOk_iff.1 (h (j+1) hj)).2.2.2;have h2:f j<f (j+1):=by rcases h1 with h1|h1;omega;simpa using h1
  by_cases e:i=j
  ·subst e;exact h2
  ·have:=ih (by omega) i (by omega);omega
theorem look_none{f g:Nat→Int}{k:Nat}{x:Int}(h:∀i,i<k→f i≠x):look f g k x=none:=by
 induction k with
 |zero=>rfl
 |succ k ih=>simp only[look];rw[if_neg (h k (by omega))];exact ih fun i hi=>h i (by omega)
theorem look_some{f g:Nat→Int}{n k:Nat}(hr:∀j,j<n→∀i,i<j→f i<f j)(hk:k<n):look f g n (f k)=some (g k):=by
 induction n with
 |zero=>omega
 |succ n ih=>
  simp only[look];by_cases e:k=n
  ·subst e;rw[if_pos rfl]
  ·have:=hr n (by omega) k (by omega);rw[if_neg (by omega)];exact ih (fun j hj i hi=>hr j (by omega) i hi) (by omega)
theorem l1Level_any(base:Int)(a:Option Addr)(n cap:Nat)(f g:Nat→Int)(x:Int)(w:World)(hn:n≤maxLen)(hc:CatsAt w a n f g)(hr:∀j,j<n→∀i,i<j→f i<f j):
 Calls Tryz.prog 79 #[.agg #[.int .i64 base,.slice a n cap],.int .i64 x] w fun e w'=>e= .returned (.int .i64 (levOf base n f g x))∧Below w.heap.size w w':=by
 unfold maxLen at hn;have hb0:=(Below.refl _ w).alloc (Nat.le_refl _) (.cells #[.int .i64 base,.slice a n cap] 30);have hc1:=hc.below hb0;have HR:Hid (∀j,j<n→∀i,i<j→f i<f j):=hr;clear hc hr;go_enter Tryz.func79,Tryz.ntmps79
 go_wp2;go_loop [5] (fun i=>∃k:Nat,k≤n∧i= .int .i64 k∧(∀j,j<k→f j≠x)) (fun i=>n-(intOf i).toNat)
 case atStart=>exact⟨0,Nat.zero_le _,rfl,fun j hj=>by omega⟩
 case round=>
  obtain⟨k,hk,rfl,hall⟩:=hrel;have HA:Hid (∀j,j<k→f j≠x):=hall;clear hall;by_cases hlt':k<n
  ·obtain⟨b,off,rfl,hlt,hcc⟩:=hc1 (by omega);obtain⟨g1,g2⟩:=hcc k hlt';clear hcc hc1;by_cases t:(f k==x)=true
   ·go_wp2;go_ret;have t':f k=x:=(by simpa using t);exact⟨ret_int (by rw[←t',levOf,look_some HR.out hlt'];rfl),hb0⟩
   ·have t':(f k==x)=false:=(by simpa using t);clear t;go_wp2;go_round;case rel=>
     refine⟨k+1,by omega,by go_num,fun j hj=>?_⟩;by_cases e:j=k
     ·subst e;simpa using t'
     ·exact HA.out j (by omega)
    case measure=>simp[intOf];omega
  ·clear hc1;go_wp2;go_ret;have e:k=n:=(by omega);subst e;exact⟨ret_int (by rw[levOf,look_none HA.out];rfl),hb0⟩
theorem labOk_wf{base:Int}{n:Nat}{f g:Nat→Int}(h:labOk base n f g=true):∀i,i<n→(Lit.int .i64 (f i)).wf=true∧(Lit.int .i64 (g i)).wf=true:=fun i hi=>by
 obtain⟨h1,h2,_⟩:=catOk_iff.1 ((labOk_out h).2.2 i hi);exact⟨wf_of_le (by omega) (by omega),wf_of_le (by omega) (by omega)⟩
def hasB(n:Nat)(h:Nat→Int)(x:Int):Bool:=(List.range n).any (fun i=>h i==x)
theorem hasB_yes{n k:Nat}{h:Nat→Int}{x:Int}(hk:k<n)(e:h k=x):hasB n h x=true:=by
 unfold hasB;rw[List.any_eq_true];exact⟨k,List.mem_range.2 hk,by simpa using e⟩
theorem hasB_no{n:Nat}{h:Nat→Int}{x:Int}(e:∀i,i<n→h i≠x):hasB n h x=false:=by
 unfold hasB;rw[List.any_eq_false];intro i hi;simpa using e i (List.mem_range.1 hi)
theorem l1Has_any(a:Option Addr)(n cap:Nat)(h:Nat→Int)(x:Int)(w:World)(hn:n≤maxLen)(hc:IntsAt w a n h):
 Calls Tryz.prog 78 #[.slice a n cap,.int .i64 x] w fun e w'=>e= .returned (.bool (hasB n h x))∧w'=w:=by
 unfold maxLen at hn;go_enter Tryz.func78,Tryz.ntmps78
 go_wp2;go_loop [5] (fun i=>∃k:Nat,k≤n∧i= .int .i64 k∧(∀j,j<k→h j≠x)) (fun i=>n-(intOf i).toNat)
 case atStart=>exact⟨0,Nat.zero_le _,rfl,fun j hj=>by omega⟩
 case round=>
  obtain⟨k,hk,rfl,hall⟩:=hrel;have HA:Hid (∀j,j<k→h j≠x):=hall;clear hall;by_cases hlt':k<n
  ·obtain⟨b,off,rfl,hlt,hcc⟩:=hc (by omega);have g1:=hcc k hlt';clear hcc hc;by_cases t:(h k==x)=true
   ·go_wp2;go_ret;exact⟨ret_bool (hasB_yes hlt' (by simpa using t)).symm,rfl⟩
   ·have t':(h k==x)=false:=(by simpa using t);clear t;go_wp2;go_round;case rel=>
     refine⟨k+1,by omega,by go_num,fun j hj=>?_⟩;by_cases e:j=k
     ·subst e;simpa using t'
     ·exact HA.out j (by omega)
    case measure=>simp[intOf];omega
  ·clear hc;go_wp2;go_ret;have e:k=n:=(by omega);subst e;exact⟨ret_bool (hasB_no HA.out).symm,rfl⟩
def letB(ba:Int)(na:Nat)(fa ga:Nat→Int)(no:Nat)(ho:Nat→Int)(bb:Int)(nb:Nat)(fb gb:Nat→Int)(x:Int):Bool:=
 hasB no ho x|| !decide (levOf bb nb fb gb x<levOf ba na fa ga x)
def flowsB(ba:Int)(na:Nat)(fa ga:Nat→Int)(no:Nat)(ho:Nat→Int)(bb:Int)(nb:Nat)(fb gb:Nat→Int):Bool:=
 decide (ba≤bb)&&(List.range (na+nb)).all (fun i=>letB ba na fa ga no ho bb nb fb gb (glue na fa fb i))
theorem flowsB_base{ba:Int}{na:Nat}{fa ga:Nat→Int}{no:Nat}{ho:Nat→Int}{bb:Int}{nb:Nat}{fb gb:Nat→Int}(h:bb<ba):flowsB ba na fa ga no ho bb nb fb gb=false:=by
 have:decide (ba≤bb)=false:=by simp;omega
 simp[flowsB,this]
theorem flowsB_at{ba:Int}{na:Nat}{fa ga:Nat→Int}{no:Nat}{ho:Nat→Int}{bb:Int}{nb:Nat}{fb gb:Nat→Int}{k:Nat}(hk:k<na+nb)(h:letB ba na fa ga no ho bb nb fb gb (glue na fa fb k)=false):flowsB ba na fa ga no ho bb nb fb gb=false:=by
 have:(List.range (na+nb)).all (fun i=>letB ba na fa ga no ho bb nb fb gb (glue na fa fb i))=false:=by
  rw[List.all_eq_false];exact⟨k,List.mem_range.2 hk,by simp[h]⟩
 simp[flowsB,this]
theorem flowsB_mk{ba:Int}{na:Nat}{fa ga:Nat→Int}{no:Nat}{ho:Nat→Int}{bb:Int}{nb:Nat}{fb gb:Nat→Int}(h0:ba≤bb)(h:∀i,i<na+nb→letB ba na fa ga no ho bb nb fb gb (glue na fa fb i)=true):flowsB ba na fa ga no ho bb nb fb gb=true:=by
 have:(List.range (na+nb)).all (fun i=>letB ba na fa ga no ho bb nb fb gb (glue na fa fb i))=true:=by
  rw[List.all_eq_true];intro i hi;exact h i (List.mem_range.1 hi)
 simp[flowsB,this,h0]
theorem l1Flows_any(ba:Int)(aa:Option Addr)(na ka:Nat)(fa ga:Nat→Int)(ao:Option Addr)(no ko:Nat)(ho:Nat→Int)(bb:Int)(ab:Option Addr)(nb kb:Nat)(fb gb:Nat→Int)(w:World)
 (hna:na≤1048576)(hnb:nb≤1048576)(hno:no≤maxLen)(hca:CatsAt w aa na fa ga)(hcb:CatsAt w ab nb fb gb)(hco:IntsAt w ao no ho)
 (hra:∀j,j<na→∀i,i<j→fa i<fa j)(hrb:∀j,j<nb→∀i,i<j→fb i<fb j):
 Calls Tryz.prog 41 #[.agg #[.int .i64 ba,.slice aa na ka],.slice ao no ko,.agg #[.int .i64 bb,.slice ab nb kb]] w fun e w'=>e= .returned (.bool (flowsB ba na fa ga no ho bb nb fb gb))∧Below w.heap.size w w':=by
 have hb0:=((Below.refl _ w).alloc (Nat.le_refl _) (.cells #[.int .i64 ba,.slice aa na ka] 30)).alloc (by simp) (.cells #[.int .i64 bb,.slice ab nb kb] 30);by_cases h0:bb<ba
 ·go_enter Tryz.func41,Tryz.ntmps41
  go_wp2;go_ret;exact⟨ret_bool (flowsB_base h0).symm,hb0⟩
 ·go_enter Tryz.func41,Tryz.ntmps41
  go_wp2_with fail
  have own0:OwnCats ((((w.alloc (.cells #[.int .i64 ba,.slice aa na ka] 30)).alloc (.cells #[.int .i64 bb,.slice ab nb kb] 30)).alloc (.cells #[] 88)).drew) (w.heap.size+1+1) (.slice (some ⟨w.heap.size+1+1,0,none⟩) 0 0) 0 (fun _=>0) (fun _=>0):=by
   have:=World.ownsRow_made (base:=w.heap.size+1+1) (e:=88) (size:=2) ((w.alloc (.cells #[.int .i64 ba,.slice aa na ka] 30)).alloc (.cells #[.int .i64 bb,.slice ab nb kb] 30)) #[] 0 (by simp) (Nat.zero_le _) rfl;simp at this;exact this
  have B0:=(hb0.alloc (by simp;omega) (.cells #[] 88)).drew;have C0a:=hca.below B0;obtain⟨D0,hD0⟩:∃D0,D0=(((w.alloc (.cells #[.int .i64 ba,.slice aa na ka] 30)).alloc (.cells #[.int .i64 bb,.slice ab nb kb] 30)).alloc (.cells #[] 88)).drew:=⟨_,rfl⟩;have d1:D0.cell? ⟨w.heap.size,0,none⟩=some (.int .i64 ba):=by rw[hD0];go_simp
  have d2:D0.cell? ⟨w.heap.size,1,none⟩=some (.slice aa na ka):=by rw[hD0];go_simp
  have d3:D0.cell? ⟨w.heap.size+1,0,none⟩=some (.int .i64 bb):=by rw[hD0];go_simp
  have d4:D0.cell? ⟨w.heap.size+1,1,none⟩=some (.slice ab nb kb):=by rw[hD0];go_simp
  have dz:w.heap.size+1+1≤D0.heap.size:=by rw[hD0];simp
  have HD:Hid (D0=(((w.alloc (.cells #[.int .i64 ba,.slice aa na ka] 30)).alloc (.cells #[.int .i64 bb,.slice ab nb kb] 30)).alloc (.cells #[] 88)).drew):=hD0;have GG:∀w1,((((w.alloc (.cells #[.int .i64 ba,.slice aa na ka] 30)).alloc (.cells #[.int .i64 bb,.slice ab nb kb] 30)).alloc (.cells #[] 88)).drew).grownBy w1 (Value.slice (some ⟨w.heap.size+1+1,0,none⟩) 0 0).ownBlock→Below (w.heap.size+1+1) D0 w1:=fun w1 hg=>by
   rw[←HD.out]at hg;exact(Below.refl _ _).grown hg dz (fun k e=>by cases e;exact Nat.le_refl _)
  have B0':Below w.heap.size w D0:=by rw[hD0];exact B0
  clear hD0;go_region_held3(fun w'=>w'.cell? ⟨w.heap.size,0,none⟩=some (.int .i64 ba)∧w'.cell? ⟨w.heap.size,1,none⟩=some (.slice aa na ka)∧w'.cell? ⟨w.heap.size+1,0,none⟩=some (.int .i64 bb)∧w'.cell? ⟨w.heap.size+1,1,none⟩=some (.slice ab nb kb)) (go_keep)
   (first
     |(refine step_append_cats0 _ (by rfl) _ _ (by rfl) (w.heap.size+1+1) _ (fun _=>0) (fun _=>0) (by rfl) own0 aa na ka fa ga (by rfl) C0a (by omega) (by simp) ?_;intro a1 c1 w1 hown1 hgrow1 hat1;have G1:=GG w1 hgrow1;have p1:=(G1.cell (p:=⟨w.heap.size,0,none⟩) (by dsimp only;omega)).trans d1;have p2:=(G1.cell (p:=⟨w.heap.size,1,none⟩) (by dsimp only;omega)).trans d2;have p3:=(G1.cell (p:=⟨w.heap.size+1,0,none⟩) (by dsimp only;omega)).trans d3;have p4:=(G1.cell (p:=⟨w.heap.size+1,1,none⟩) (by dsimp only;omega)).trans d4;have s1:w.heap.size+1+1≤w1.heap.size:=Nat.le_trans dz G1.size;have B1:Below w.heap.size w w1:=B0'.trans (G1.mono (by omega));have C1b:=hcb.below B1)
     |(refine step_append_cats _ (by rfl) _ _ (by rfl) (w.heap.size+1+1) _ na fa ga (by rfl) hown1 ab nb kb fb gb (by rfl) C1b (by omega) s1 ?_;intro a2 c2 w2 hown2 hgrow2 hat2;have G2:Below (w.heap.size+1+1) w1 w2:=(Below.refl _ _).grown hgrow2 s1 (fun k e=>(World.ownsRow.lt hown1 k e).1);have q1:=(G2.cell (p:=⟨w.heap.size,0,none⟩) (by dsimp only;omega)).trans p1;have q2:=(G2.cell (p:=⟨w.heap.size,1,none⟩) (by dsimp only;omega)).trans p2;have q3:=(G2.cell (p:=⟨w.heap.size+1,0,none⟩) (by dsimp only;omega)).trans p3;have q4:=(G2.cell (p:=⟨w.heap.size+1,1,none⟩) (by dsimp only;omega)).trans p4;have s2:w.heap.size+1+1≤w2.heap.size:=Nat.le_trans s1 G2.size;have B2:Below w.heap.size w w2:=B1.trans (G2.mono (by omega))))
  have C2:=OwnCats.cats hown2;have C2a:=hca.below B2;have C2b:=hcb.below B2;have C2o:=hco.below B2;clear p1 p2 p3 p4 d1 d2 d3 d4 hca hcb hco B0 C0a own0 hb0 hown1 hgrow1 hat1 hgrow2 hat2 hown2 G1 G2 GG HD s1 C1b B1 dz B0';go_wp2;go_loopw [8] (fun i wr=>∃k:Nat,k≤na+nb∧i= .int .i64 k∧(∀j,j<k→letB ba na fa ga no ho bb nb fb gb (glue na fa fb j)=true)∧Below w2.heap.size w2 wr) (fun i _=>na+nb-(intOf i).toNat)
  case atStart=>exact⟨0,Nat.zero_le _,rfl,fun j hj=>by omega,Below.refl _ _⟩
  case round=>
   obtain⟨k,hk,rfl,hall,hB⟩:=hrel;have HA:Hid (∀j,j<k→letB ba na fa ga no ho bb nb fb gb (glue na fa fb j)=true):=hall;clear hall;have Bw:Below w.heap.size w wr:=B2.trans (hB.mono (by omega));by_cases hlt':k<na+nb
   ·obtain⟨b,off,rfl,hlt,hcc⟩:=C2 (by omega);have r5:=(hB.cell (p:=⟨b,off+k*2,none⟩) hlt).trans (hcc k hlt').1;have r1:=(hB.cell (p:=⟨w.heap.size,0,none⟩) (by dsimp only;omega)).trans q1;have r2:=(hB.cell (p:=⟨w.heap.size,1,none⟩) (by dsimp only;omega)).trans q2;have r3:=(hB.cell (p:=⟨w.heap.size+1,0,none⟩) (by dsimp only;omega)).trans q3;have r4:=(hB.cell (p:=⟨w.heap.size+1,1,none⟩) (by dsimp only;omega)).trans q4;have i0:(0:Int)≤(k:Int):=(by omega);have i1:(k:Int)<((na+nb:Nat):Int):=(by omega);have i1':(k:Int)<(na:Int)+(nb:Int):=(by omega);have y1:w.heap.size<wr.heap.size:=(by have:=hB.size;omega);have y2:w.heap.size+1<wr.heap.size:=(by have:=hB.size;omega);have y3:b<wr.heap.size:=(by have:=hB.size;omega);have Ca:CatsAt wr.drew aa na fa ga:=(C2a.below hB).below (Below.refl _ _).drew;have Cb:CatsAt wr.drew ab nb fb gb:=(C2b.below hB).below (Below.refl _ _).drew;have Co:IntsAt wr ao no ho:=C2o.below hB;obtain⟨x,hx⟩:∃x,x=glue na fa fb k:=⟨_,rfl⟩;rw[←hx]at r5;have HX:Hid (x=glue na fa fb k):=hx;clear hx hcc C2 C2a C2b C2o q1 q2 q3 q4;by_cases t:hasB no ho x=true
    ·clear Ca Cb;have t':letB ba na fa ga no ho bb nb fb gb x=true:=(by simp[letB,t]);have HT:Hid (letB ba na fa ga no ho bb nb fb gb x=true):=t';clear t';go_wp2_with fail
     have CoN:∀m,IntsAt (wr.drewN m) ao no ho:=fun m=>Co.below (below_drewN (Below.refl _ _) m);go_quiet((go_at_call 78;exact Calls.quiet_of_same (l1Has_any _ _ _ ho _ _ hno (CoN _))))
     clear CoN;go_wp2;go_roundw;case rel=>
      refine⟨k+1,by omega,by go_num,fun j hj=>?_,below_drewN hB _⟩;by_cases e:j=k
      ·subst e;rw[←HX.out];exact HT.out
      ·exact HA.out j (by omega)
     case measure=>simp[intOf];omega
    ·have t0:hasB no ho x=false:=(by simpa using t);clear t;have Co':IntsAt wr.drew ao no ho:=Co.below (Below.refl _ _).drew;have HRA:Hid (∀j,j<na→∀i,i<j→fa i<fa j):=hra;have HRB:Hid (∀j,j<nb→∀i,i<j→fb i<fb j):=hrb;have ma:na≤maxLen:=(by unfold maxLen;omega);have mb:nb≤maxLen:=(by unfold maxLen;omega);clear Co hra hrb;go_wp2_with fail
     go_region_held3(fun w'=>w'.cell? ⟨w.heap.size,0,none⟩=some (.int .i64 ba)∧w'.cell? ⟨w.heap.size,1,none⟩=some (.slice aa na ka)∧w'.cell? ⟨w.heap.size+1,0,none⟩=some (.int .i64 bb)∧w'.cell? ⟨w.heap.size+1,1,none⟩=some (.slice ab nb kb)∧w'.cell? ⟨b,off+k*2,none⟩=some (.int .i64 x)) (go_keep)
      (first
        |(go_at_call 78;refine(l1Has_any _ _ _ ho _ _ hno Co').mono ?_;rintro e w' ⟨rfl,rfl⟩)
        |(go_at_call 79;refine(l1Level_any bb ab nb kb fb gb x _ mb (Cb.below hb1) HRB.out).mono ?_;rintro e v2 ⟨rfl,hb2⟩;have u1:=(hb2.cell (p:=⟨w.heap.size,0,none⟩) (Nat.lt_of_lt_of_le y1 hb1.size)).trans p1;have u2:=(hb2.cell (p:=⟨w.heap.size,1,none⟩) (Nat.lt_of_lt_of_le y1 hb1.size)).trans p2;have u3:=(hb2.cell (p:=⟨w.heap.size+1,0,none⟩) (Nat.lt_of_lt_of_le y2 hb1.size)).trans p3;have u4:=(hb2.cell (p:=⟨w.heap.size+1,1,none⟩) (Nat.lt_of_lt_of_le y2 hb1.size)).trans p4;have u5:=(hb2.cell (p:=⟨b,off+k*2,none⟩) (Nat.lt_of_lt_of_le y3 hb1.size)).trans p5)
        |(go_at_call 79;refine(l1Level_any ba aa na ka fa ga x _ ma Ca HRA.out).mono ?_;rintro e v1 ⟨rfl,hb1⟩;have p1:=(hb1.cell (p:=⟨w.heap.size,0,none⟩) y1).trans r1;have p2:=(hb1.cell (p:=⟨w.heap.size,1,none⟩) y1).trans r2;have p3:=(hb1.cell (p:=⟨w.heap.size+1,0,none⟩) y2).trans r3;have p4:=(hb1.cell (p:=⟨w.heap.size+1,1,none⟩) y2).trans r4;have p5:=(hb1.cell (p:=⟨b,off+k*2,none⟩) y3).trans r5))
     have hBv:Below w2.heap.size w2 v2:=(hB.drew.trans (hb1.mono hB.size)).trans (hb2.mono (Nat.le_trans hB.size hb1.size));clear r1 r2 r3 r4 r5 p1 p2 p3 p4 p5 u1 u2 u3 u4 u5 Ca Cb Co' hb1 hb2 HRA HRB;by_cases t1:levOf bb nb fb gb x<levOf ba na fa ga x
     ·have HT:Hid (letB ba na fa ga no ho bb nb fb gb x=false):=(by show _=_;simp[letB,t0,t1]);go_wp2;go_ret;refine⟨ret_bool (flowsB_at hlt' ?_).symm,B2.trans (hBv.mono (by omega))⟩;rw[←HX.out];exact HT.out
     ·have HT:Hid (letB ba na fa ga no ho bb nb fb gb x=true):=(by show _=_;simp[letB,t0,t1]);go_wp2;go_roundw;case rel=>
       refine⟨k+1,by omega,by go_num,fun j hj=>?_,hBv⟩;by_cases e:j=k
       ·subst e;rw[←HX.out];exact HT.out
       ·exact HA.out j (by omega)
      case measure=>simp[intOf];omega
   ·go_wp2;go_ret;have e:k=na+nb:=(by omega);exact⟨ret_bool (flowsB_mk h0 (fun i hi=>HA.out i (by omega))).symm,Bw⟩
theorem l2Sees_any(id made b1:Int)(a1:Option Addr)(n1 k1:Nat)(f1 g1:Nat→Int)(b2:Int)(a2:Option Addr)(n2 k2:Nat)(f2 g2:Nat→Int)(a3:Option Addr)(n3 k3:Nat)(h:Nat→Int)(bl:Int)(al:Option Addr)(nl kl:Nat)(fl gl:Nat→Int)(w:World)(_hn1:n1≤maxLen)(_hn2:n2≤maxLen)(hn3:n3≤maxLen)(hc1:CatsAt w a1 n1 f1 g1)(_hc2:CatsAt w a2 n2 f2 g2)(hc3:IntsAt w a3 n3 h)(_hnl:nl≤maxLen)(hcl:CatsAt w al nl fl gl)(hm1:n1≤1048576)(hml:nl≤1048576)(hr1:∀j,j<n1→∀i,i<j→f1 i<f1 j)(hrl:∀j,j<nl→∀i,i<j→fl i<fl j):
 Calls Tryz.prog 173 #[.agg #[.int .i64 id,.int .i64 b1,.slice a1 n1 k1,.int .i64 b2,.slice a2 n2 k2,.slice a3 n3 k3,.int .i64 made],.agg #[.int .i64 bl,.slice al nl kl]] w fun e w'=>e= .returned (.bool (flowsB bl nl fl gl n3 h b1 n1 f1 g1))∧Below w.heap.size w w':=by
 have hb0:=((Below.refl _ w).alloc (Nat.le_refl _) (.cells #[.int .i64 id,.int .i64 b1,.slice a1 n1 k1,.int .i64 b2,.slice a2 n2 k2,.slice a3 n3 k3,.int .i64 made] 75)).alloc (by simp) (.cells #[.int .i64 bl,.slice al nl kl] 30);have yT:Blk ((w.alloc (.cells #[.int .i64 id,.int .i64 b1,.slice a1 n1 k1,.int .i64 b2,.slice a2 n2 k2,.slice a3 n3 k3,.int .i64 made] 75)).alloc (.cells #[.int .i64 bl,.slice al nl kl] 30)) w.heap.size (.cells #[.int .i64 id,.int .i64 b1,.slice a1 n1 k1,.int .i64 b2,.slice a2 n2 k2,.slice a3 n3 k3,.int .i64 made] 75):=(Blk.new w _).alloc _;have yL:Blk ((w.alloc (.cells #[.int .i64 id,.int .i64 b1,.slice a1 n1 k1,.int .i64 b2,.slice a2 n2 k2,.slice a3 n3 k3,.int .i64 made] 75)).alloc (.cells #[.int .i64 bl,.slice al nl kl] 30)) (w.heap.size+1) (.cells #[.int .i64 bl,.slice al nl kl] 30):=by have:=Blk.new (w.alloc (.cells #[.int .i64 id,.int .i64 b1,.slice a1 n1 k1,.int .i64 b2,.slice a2 n2 k2,.slice a3 n3 k3,.int .i64 made] 75)) (.cells #[.int .i64 bl,.slice al nl kl] 30);simpa using this
 go_enter Tryz.func173,Tryz.ntmps173
 go_wp2_with fail
 refine(l1Flows_any _ _ _ _ fl gl _ _ _ h _ _ _ _ f1 g1 _ hml hm1 hn3 (hcl.below hb0) (hc1.below hb0) (hc3.below hb0) hrl hr1).mono ?_;rintro e w1 ⟨rfl,hb1⟩;have B1:Below w.heap.size w w1:=hb0.trans (hb1.mono (by simp;omega));clear yT yL hb0 hb1;go_wp2;go_ret;exact⟨rfl,B1⟩
theorem l2Changes_any(id made b1:Int)(a1:Option Addr)(n1 k1:Nat)(f1 g1:Nat→Int)(b2:Int)(a2:Option Addr)(n2 k2:Nat)(f2 g2:Nat→Int)(a3:Option Addr)(n3 k3:Nat)(h:Nat→Int)(bl:Int)(al:Option Addr)(nl kl:Nat)(fl gl:Nat→Int)(w:World)(hn1:n1≤maxLen)(hn2:n2≤maxLen)(hn3:n3≤maxLen)(hc1:CatsAt w a1 n1 f1 g1)(hc2:CatsAt w a2 n2 f2 g2)(hc3:IntsAt w a3 n3 h)(hnl:nl≤maxLen)(hcl:CatsAt w al nl fl gl)(hm1:n1≤1048576)(hml:nl≤1048576)(hr1:∀j,j<n1→∀i,i<j→f1 i<f1 j)(hrl:∀j,j<nl→∀i,i<j→fl i<fl j):
 Calls Tryz.prog 169 #[.agg #[.int .i64 id,.int .i64 b1,.slice a1 n1 k1,.int .i64 b2,.slice a2 n2 k2,.slice a3 n3 k3,.int .i64 made],.agg #[.int .i64 bl,.slice al nl kl]] w fun e w'=>e= .returned (.bool (flowsB bl nl fl gl n3 h b1 n1 f1 g1&&flowsB b1 n1 f1 g1 n3 h bl nl fl gl))∧Below w.heap.size w w':=by
 have hb0:=((Below.refl _ w).alloc (Nat.le_refl _) (.cells #[.int .i64 id,.int .i64 b1,.slice a1 n1 k1,.int .i64 b2,.slice a2 n2 k2,.slice a3 n3 k3,.int .i64 made] 75)).alloc (by simp) (.cells #[.int .i64 bl,.slice al nl kl] 30);have yT:Blk ((w.alloc (.cells #[.int .i64 id,.int .i64 b1,.slice a1 n1 k1,.int .i64 b2,.slice a2 n2 k2,.slice a3 n3 k3,.int .i64 made] 75)).alloc (.cells #[.int .i64 bl,.slice al nl kl] 30)) w.heap.size (.cells #[.int .i64 id,.int .i64 b1,.slice a1 n1 k1,.int .i64 b2,.slice a2 n2 k2,.slice a3 n3 k3,.int .i64 made] 75):=(Blk.new w _).alloc _;have yL:Blk ((w.alloc (.cells #[.int .i64 id,.int .i64 b1,.slice a1 n1 k1,.int .i64 b2,.slice a2 n2 k2,.slice a3 n3 k3,.int .i64 made] 75)).alloc (.cells #[.int .i64 bl,.slice al nl kl] 30)) (w.heap.size+1) (.cells #[.int .i64 bl,.slice al nl kl] 30):=by have:=Blk.new (w.alloc (.cells #[.int .i64 id,.int .i64 b1,.slice a1 n1 k1,.int .i64 b2,.slice a2 n2 k2,.slice a3 n3 k3,.int .i64 made] 75)) (.cells #[.int .i64 bl,.slice al nl kl] 30);simpa using this
 go_enter Tryz.func169,Tryz.ntmps169
 go_wp2_with fail
 refine(l2Sees_any _ _ _ _ _ _ f1 g1 _ _ _ _ f2 g2 _ _ _ h _ _ _ _ fl gl _ hn1 hn2 hn3 (hc1.below hb0) (hc2.below hb0) (hc3.below hb0) hnl (hcl.below hb0) hm1 hml hr1 hrl).mono ?_;rintro e w1 ⟨rfl,hb1⟩;have B1:Below w.heap.size w w1:=hb0.trans (hb1.mono (by simp;omega));have xT:=yT.below hb1;have xL:=yL.below hb1;obtain⟨x0,x1,x2,x3,x4,x5,x6⟩:=xT.seven;obtain⟨x7,x8⟩:=xL.two;clear yT yL hb0 hb1;by_cases t1:flowsB bl nl fl gl n3 h b1 n1 f1 g1=true
 ·go_wp2_with fail
  refine(l1Flows_any _ _ _ _ f1 g1 _ _ _ h _ _ _ _ fl gl _ hm1 hml hn3 (hc1.below B1) (hcl.below B1) (hc3.below B1) hr1 hrl).mono ?_;rintro e w2 ⟨rfl,hb2⟩;have B2:Below w.heap.size w w2:=B1.trans (hb2.mono B1.size);clear x0 x1 x2 x3 x4 x5 x6 x7 x8 xT xL;go_wp2;go_ret;exact⟨ret_bool (by rw[t1];rfl),B2⟩
 ·have t1':flowsB bl nl fl gl n3 h b1 n1 f1 g1=false:=by simpa using t1
  clear t1;go_wp2;go_ret;exact⟨ret_bool (by rw[t1'];rfl),B1⟩
end Go.Proofs.YtbacmamplkdgaaaGreatDoor
