import Derived.Maps.OwnOps
import Derived.BigRegion
import Derived.Deep.RegionHeld
import Derived.Test.YtdaccbddcjlkpaaGreatDoorZ19p
set_option maxRecDepth 100000
set_option maxHeartbeats 8000000
namespace Go.Proofs.YtdaccbddcjlkpaaGreatDoor
open Go Go.RowKit Go.Deep Go.Maps
open _root_.Bool renaming and_eq_true→qz
section
variable (X:Ae) (s:Aj) (lt:List Ae) (lo:List Ab) (t:Nat)
def Mx:Prop:=∃(c:Int) (tx:ByteArray) (lt':List Ae) (lo':List Ab),GC X s lt lo t c tx lt' lo'
theorem fv(hk:s.kind=1):Mx X s lt lo t:=by
 by_cases h:X.made=30∨X.own.n=10
 ·exact⟨5,_,_,_,.k1 hk X rfl rfl (.inl ⟨rfl,h,rfl,rfl⟩)⟩
 ·exact⟨0,_,_,_,.k1 hk _ rfl rfl (.inr ⟨rfl,h,rfl,none,0,rfl⟩)⟩
theorem cI(hk:s.kind=12):Mx X s lt lo t:=by
 cases h:Iu X s with
 |false=>exact⟨4,_,_,_,.k12 hk X rfl rfl rfl (.inl ⟨rfl,h,rfl⟩)⟩
 |true=>exact⟨0,_,_,_,.k12 hk _ rfl rfl rfl (.inr ⟨rfl,h,s.c1,⟨rfl,rfl,rfl⟩,rfl⟩)⟩
theorem cy(hk:s.kind=14):Mx X s lt lo t:=by
 cases h:hasB X.own.n X.own.h s.cat with
 |false=>exact⟨4,_,_,_,.k14 hk X rfl rfl rfl (.inl ⟨rfl,h,rfl⟩)⟩
 |true=>exact⟨0,_,_,_,.k14 hk _ rfl rfl rfl (.inr ⟨rfl,h,none,0,rfl⟩)⟩
theorem eI(hk:s.kind=2∨s.kind=3∨s.kind=4∨s.kind=5):Mx X s lt lo t:=by
 cases h:Gg X s lo with
 |false=>exact⟨4,_,_,_,.make hk (.inl ⟨rfl,h,rfl,rfl,rfl⟩)⟩
 |true=>
  by_cases h3:X.made=30
  ·exact⟨5,_,_,_,.make hk (.inr (.inl ⟨rfl,h,h3,rfl,rfl,rfl⟩))⟩
  ·refine⟨0,_,_,_,.make hk (.inr (.inr ⟨rfl,h,h3,rfl,rfl,s.c1,if s.kind=5 then s.c2 else Ao,if 0<s.cat then⟨none,1,0,fun _=>s.cat⟩else Fx,⟨rfl,rfl,rfl⟩,?_,?_,rfl⟩))⟩
   ·by_cases h5:s.kind=5
    ·rw[if_pos h5,if_pos h5];exact⟨rfl,rfl,rfl⟩
    ·rw[if_neg h5,if_neg h5]
   ·by_cases h5:0<s.cat
    ·rw[if_pos h5,if_pos h5];exact⟨rfl,rfl⟩
    ·rw[if_neg h5,if_neg h5]
theorem eC(hk:s.kind=11):Mx X s lt lo t:=by
 cases h:Hj X lo s.id with
 |false=>exact⟨4,_,_,_,.drop hk rfl rfl (.inl ⟨rfl,h,rfl⟩)⟩
 |true=>
  have h':=h;unfold Hj at h';cases hu:Hq lo s.id with
  |none=>rw[hu]at h';cases h'
  |some u=>
   rw[hu]at h';simp only[qz,decide_eq_true_eq]at h';exact⟨0,_,_,_,.drop hk rfl rfl (.inr ⟨rfl,h,u,hu,h'.1,rfl⟩)⟩
theorem eZ(hk:s.kind=6):Mx X s lt lo t:=by
 cases h:BF X lo s.id 1 with
 |none=>exact⟨4,_,_,_,.k6 hk (.inl ⟨h,rfl,rfl,rfl,rfl⟩)⟩
 |some u=>
  cases hc:Ap X (Aa lo u).b1 (Aa lo u).c1 with
  |false=>exact⟨4,_,_,_,.k6 hk (.inr ⟨u,h,.inl ⟨hc,rfl,rfl,rfl,rfl⟩⟩)⟩
  |true=>exact⟨0,_,_,_,.k6 hk (.inr ⟨u,h,.inr ⟨hc,rfl,rfl,rfl,rfl⟩⟩)⟩
theorem eB(hk:s.kind=7):Mx X s lt lo t:=by
 cases h:BF X lo s.id 1 with
 |none=>exact⟨4,_,_,_,.k7 hk (.inl ⟨h,rfl,rfl,rfl,rfl⟩)⟩
 |some u=>exact⟨0,_,_,_,.k7 hk (.inr ⟨u,h,rfl,rfl,rfl,rfl⟩)⟩
theorem eE(hk:s.kind=8):Mx X s lt lo t:=by
 cases h:BF X lo s.id 1 with
 |none=>exact⟨4,_,_,_,.k8 hk (.inl ⟨h,rfl,rfl,rfl,rfl⟩)⟩
 |some u=>
  cases hp:Hq lo s.to with
  |none=>exact⟨4,_,_,_,.k8 hk (.inr ⟨u,h,.inl ⟨hp,rfl,rfl,rfl,rfl⟩⟩)⟩
  |some p=>
   by_cases h1:(Aa lo p).kind=1
   ·cases hc:Ap X (Aa lo p).b1 (Aa lo p).c1 with
    |false=>exact⟨4,_,_,_,.k8 hk (.inr ⟨u,h,.inr ⟨p,hp,.inl ⟨.inr hc,rfl,rfl,rfl,rfl⟩⟩⟩)⟩
    |true=>exact⟨0,_,_,_,.k8 hk (.inr ⟨u,h,.inr ⟨p,hp,.inr ⟨h1,hc,rfl,rfl,rfl,rfl⟩⟩⟩)⟩
   ·exact⟨4,_,_,_,.k8 hk (.inr ⟨u,h,.inr ⟨p,hp,.inl ⟨.inl h1,rfl,rfl,rfl,rfl⟩⟩⟩)⟩
theorem eG(hk:s.kind=9):Mx X s lt lo t:=by
 cases h:BF X lo s.id 2 with
 |none=>exact⟨4,_,_,_,.k9 hk (.inl ⟨h,rfl,rfl,rfl,rfl⟩)⟩
 |some u=>
  cases hc:Ap X (Aa lo u).b1 (Aa lo u).c1 with
  |false=>exact⟨4,_,_,_,.k9 hk (.inr ⟨u,h,.inl ⟨hc,rfl,rfl,rfl,rfl⟩⟩)⟩
  |true=>
   by_cases h8:(Aa lo u).jA.n=8
   ·exact⟨5,_,_,_,.k9 hk (.inr ⟨u,h,.inr (.inl ⟨hc,h8,rfl,rfl,rfl,rfl⟩)⟩)⟩
   ·exact⟨0,_,_,_,.k9 hk (.inr ⟨u,h,.inr (.inr ⟨hc,h8,rfl,rfl,rfl,none,0,rfl⟩)⟩)⟩
theorem bI(hk:s.kind=10):Mx X s lt lo t:=by
 cases h:BF X lo s.id 2 with
 |none=>exact⟨4,_,_,_,.k10 hk (.inl ⟨h,rfl,rfl,rfl,rfl⟩)⟩
 |some u=>
  cases hc:Ap X (Aa lo u).b1 (Aa lo u).c1 with
  |false=>exact⟨4,_,_,_,.k10 hk (.inr ⟨u,h,.inl ⟨hc,rfl,rfl,rfl,rfl⟩⟩)⟩
  |true=>
   by_cases h8:(Aa lo u).jA.n=0
   ·exact⟨6,_,_,_,.k10 hk (.inr ⟨u,h,.inr (.inl ⟨hc,h8,rfl,rfl,rfl,rfl⟩)⟩)⟩
   ·exact⟨0,_,_,_,.k10 hk (.inr ⟨u,h,.inr (.inr ⟨hc,h8,rfl,rfl,rfl,none,0,rfl⟩)⟩)⟩
theorem bf(hk:s.kind=13):Mx X s lt lo t:=by
 cases h:BF X lo s.id 4 with
 |none=>exact⟨4,_,_,_,.k13 hk (.inl ⟨h,rfl,rfl,rfl,rfl⟩)⟩
 |some u=>
  cases hc:El X.b1 X.c1 X.own (Aa lo u).b2 (Aa lo u).c2 with
  |false=>exact⟨4,_,_,_,.k13 hk (.inr ⟨u,h,.inl ⟨hc,rfl,rfl,rfl,rfl⟩⟩)⟩
  |true=>
   by_cases h8:10<(Ed ((List.range X.own.n).map X.own.h) (Aa lo u).own.h (Aa lo u).own.n).length
   ·exact⟨5,_,_,_,.k13 hk (.inr ⟨u,h,.inr (.inl ⟨hc,h8,rfl,rfl,rfl,rfl⟩)⟩)⟩
   ·exact⟨0,_,_,_,.k13 hk (.inr ⟨u,h,.inr (.inr ⟨hc,h8,rfl,rfl,none,0,rfl,rfl⟩)⟩)⟩
theorem cd(hk:s.kind=15):Mx X s lt lo t:=by
 cases h:BF X lo s.id 3 with
 |none=>exact⟨4,_,_,_,.k15 hk (.inl ⟨h,rfl,rfl,rfl,rfl⟩)⟩
 |some u=>exact⟨0,_,_,_,.k15 hk (.inr ⟨u,h,rfl,rfl,rfl,rfl⟩)⟩
end
theorem VF{X:Ae}{s:Aj}{lt:List Ae}{lo:List Ab}{t:Nat}(hk:1<=s.kind/\s.kind<=15):Mx X s lt lo t:=by
 have:s.kind=1∨(s.kind=2∨s.kind=3∨s.kind=4∨s.kind=5)∨s.kind=6∨s.kind=7∨s.kind=8∨s.kind=9∨s.kind=10∨s.kind=11∨s.kind=12∨s.kind=13∨s.kind=14∨s.kind=15:=by omega
 rcases this with h|h|h|h|h|h|h|h|h|h|h|h
 ·exact fv _ _ _ _ _ h
 ·exact eI _ _ _ _ _ h
 ·exact eZ _ _ _ _ _ h
 ·exact eB _ _ _ _ _ h
 ·exact eE _ _ _ _ _ h
 ·exact eG _ _ _ _ _ h
 ·exact bI _ _ _ _ _ h
 ·exact eC _ _ _ _ _ h
 ·exact cI _ _ _ _ _ h
 ·exact bf _ _ _ _ _ h
 ·exact cy _ _ _ _ _ h
 ·exact cd _ _ _ _ _ h
theorem VG{s:Aj}(h:s.ok=true):1<=s.kind/\s.kind<=15:=by
 unfold Aj.ok Hi Fj at h;simp only[qz]at h;have u:=h.1.1.1.1.1.1.1.1.1.1;unfold dw at u;simp at u;omega
theorem Ur(lt:List Ae)(lo:List Ab)(s:Aj):∃(c:Int) (tx:ByteArray) (lt':List Ae) (lo':List Ab),Ji lt lo s c tx lt' lo':=by
 cases h:s.ok with
 |false=>exact⟨2,_,_,_,.form h rfl rfl rfl rfl⟩
 |true=>
  cases ht:Us lt s.th with
  |none=>exact⟨3,_,_,_,.thread h ht rfl rfl rfl rfl⟩
  |some t=>
   have hl:t<lt.length:=(AH ht).1;obtain⟨c,tx,lt',lo',p⟩:=VF (X:=lt[t]) (s:=s) (lt:=lt) (lo:=lo) (t:=t) (VG h);exact⟨c,tx,lt',lo',.act h t hl ht p⟩
theorem Vi(k:Av):k.same k:=⟨rfl,fun _ _=>⟨rfl,rfl,⟨rfl,rfl,rfl⟩,rfl,⟨rfl,rfl,rfl⟩,⟨rfl,rfl⟩,rfl⟩,rfl,fun _ _=>⟨rfl,rfl,rfl,rfl,⟨rfl,rfl,rfl⟩,rfl,⟨rfl,rfl⟩,⟨rfl,rfl⟩,rfl,⟨rfl,rfl,rfl⟩⟩⟩
theorem Oz(l:List Ae):Ni l l:=⟨rfl,fun _ _=>⟨rfl,rfl,⟨rfl,rfl,rfl⟩,rfl,⟨rfl,rfl,rfl⟩,⟨rfl,rfl⟩,rfl⟩⟩
theorem P6(l:List Ab):Jm l l:=⟨rfl,fun _ _=>⟨rfl,rfl,rfl,rfl,⟨rfl,rfl,rfl⟩,rfl,⟨rfl,rfl⟩,⟨rfl,rfl⟩,rfl,⟨rfl,rfl,rfl⟩⟩⟩
abbrev kL(T:List Ae)(O:List Ab):Av:=Df none 0 none 0 T O
theorem Sp{T:List Ae}{O:List Ab}(ok:okL T O=true)(s:Aj):∃(c:Int) (tx:ByteArray) (T':List Ae) (O':List Ab),Fy (kL T O) s c tx T' O'/\okL T' O'=true:=by
 obtain⟨c,tx,T',O',d⟩:=Ur T O s;exact⟨c,tx,T',O',.inr ⟨ok,T,O,T',O',Vi _,Oz _,P6 _,d⟩,IB ok d⟩
inductive La(S:Nat->Aj):Nat->List Ae->List Ab->List (Int×ByteArray)->List Ae->List Ab->Prop
 |nil (T:List Ae) (O:List Ab):La S 0 T O [] T O
 |more {n:Nat}{T T1 T2:List Ae}{O O1 O2:List Ab}{ans:List (Int×ByteArray)}{c:Int}{tx:ByteArray} (h:La S n T O ans T1 O1) (r:Fy (kL T1 O1) (S n) c tx T2 O2) (ok:okL T2 O2=true):La S (n+1) T O (ans++[(c,tx)]) T2 O2
theorem Lb{T:List Ae}{O:List Ab}(S:Nat->Aj)(ok:okL T O=true):∀n,∃(ans:List (Int×ByteArray)) (T':List Ae) (O':List Ab),La S n T O ans T' O'/\okL T' O'=true
 |0=>⟨[],T,O,.nil T O,ok⟩
 |n+1=>by
  obtain⟨ans,T1,O1,h,ok1⟩:=Lb S ok n;obtain⟨c,tx,T2,O2,r,ok2⟩:=Sp ok1 (S n);exact⟨_,T2,O2,.more h r ok2,ok2⟩
theorem cQ{S:Nat->Aj}{n:Nat}{T T':List Ae}{O O':List Ab}{ans:List (Int×ByteArray)}(h:La S n T O ans T' O'):ans.length=n:=by
 induction h with
 |nil=>rfl
 |more _ _ _ ih=>simp[ih]
theorem run_parts{S:Nat->Aj}{c:Nat}{T T1:List Ae}{O O1:List Ab}{ans:List (Int×ByteArray)}(h:La S c T O ans T1 O1):∀{n:Nat}{T2:List Ae}{O2:List Ab}{bs:List (Int×ByteArray)},La (fun i=>S (c+i)) n T1 O1 bs T2 O2->La S (c+n) T O (ans++bs) T2 O2:=by
 intro n T2 O2 bs k;induction k with
 |nil=>simpa using h
 |more k1 r ok ih=>
  rw[<-List.append_assoc];exact .more (ih h) r ok
open _root_.Nat renaming le_trans→qj,lt_of_lt_of_le→qv
open Go.World renaming ownsRow→qq,setCell→zX
open _root_.Array renaming getElem?_modify→kY
open _root_.List renaming getElem?_append_left→kP
variable {a b c W w:World}{P t B n i B':Nat}{x y v:Value}{f g f' g':Nat->Int}
theorem Cw{row:Option Nat}(h:a.grownBy b (some P))(k:b.grownBy c row)(hr:∀j,row=some j->a.heap.size<=j):a.grownBy c (some P):=
 ⟨k.os.trans h.os,k.tape.trans h.tape,k.output.trans h.output,qj h.size k.size,fun j hj hne=>(k.block j (qv hj h.size) (fun e=>by have:=hr j e.symm;omega)).trans (h.block j hj hne)⟩
theorem Ag.set1(h:Ag W P (.cells #[x,y] t))(v:Value):Ag (W.setCell ⟨P,1,none⟩ v) P (.cells #[x,v] t):=by
 unfold Ag at *;simp[zX,kY,h]
theorem Ag.jQ(h:Ag W P (.cells #[x,y] t))(i:Nat):W.frozen? ⟨P,i,none⟩=false:=by
 unfold Ag at h;simp[World.frozen?,h]
theorem AO.alloc(h:AO w B v n f g)(o:Obj):AO (w.alloc o) B v n f g:=qq.alloc h o
theorem N0(w:World)(x y:Int):Bd (w.alloc (.cells #[.int .i64 x,.int .i64 y] 96)) (some ⟨w,0,none⟩) 1 (fun _=>x) (fun _=>y):=fun _=>by
 obtain⟨h1,h2⟩:=Ag.two (Ag.new w (.cells #[.int .i64 x,.int .i64 y] 96));refine⟨w,0,rfl,by simp,fun i hi=>?_⟩;obtain rfl:i=0:=by omega
 exact⟨h1,h2⟩
def Db(l:List (Int×Int))(i:Nat):Int:=(l.getD i (0,0)).1
def Dc(l:List (Int×Int))(i:Nat):Int:=(l.getD i (0,0)).2
theorem Qh{l:List (Int×Int)}{p:Int×Int}(h:i<l.length):Db (l++[p]) i=Db l i:=by
 simp[Db,kP h]
theorem Qv{l:List (Int×Int)}{p:Int×Int}(h:i<l.length):Dc (l++[p]) i=Dc l i:=by
 simp[Dc,kP h]
theorem Qr(l:List (Int×Int))(p:Int×Int):Db (l++[p]) l.length=p.1:=by simp[Db]
theorem Qq(l:List (Int×Int))(p:Int×Int):Dc (l++[p]) l.length=p.2:=by simp[Dc]
theorem PX(hf:∀i,i<n->f i=f' i)(hg:∀i,i<n->g i=g' i):Cp f g n=Cp f' g' n:=by
 unfold Cp;apply List.map_congr_left;intro j hj;have hj':j<n*2:=List.mem_range.1 hj;have:j/2<n:=by omega
 unfold Dx;rw[hf _ this,hg _ this]
theorem AO.congr(h:AO w B v n f g)(hf:∀i,i<n->f i=f' i)(hg:∀i,i<n->g i=g' i):AO w B v n f' g':=by
 unfold AO at *;rw[<-PX hf hg];exact h
def Bo(w:World)(B:Nat)(v:Value)(l:List (Int×Int)):Prop:=AO w B v l.length (Db l) (Dc l)
theorem Bo.snoc{l:List (Int×Int)}{x y:Int}(h:AO w B v (l.length+1) (glue l.length (Db l) (fun _=>x)) (glue l.length (Dc l) (fun _=>y))):Bo w B v (l++[(x,y)]):=by
 unfold Bo;rw[List.length_append];refine h.congr (fun i hi=>?_) (fun i hi=>?_)
 ·by_cases e:i<l.length
  ·simp only[glue,e,if_true];rw[Qh e]
  ·obtain rfl:i=l.length:=by have hi':i<l.length+1:=hi;omega
   rw[Qr];simp[glue]
 ·by_cases e:i<l.length
  ·simp only[glue,e,if_true];rw[Qv e]
  ·obtain rfl:i=l.length:=by have hi':i<l.length+1:=hi;omega
   rw[Qq];simp[glue]
theorem Bo.below{w':World}{l:List (Int×Int)}(h:Bo w B v l)(hb:Below w w w'):Bo w' B v l:=by
 refine⟨h.1,?_⟩;rcases h.2 with hn|⟨g,cap,cur,hv,hbg,hg,rest⟩
 ·exact .inl hn
 ·exact .inr ⟨g,cap,cur,hv,hbg,(hb.block g (Array.getElem?_eq_some_iff.1 hg).1).trans hg,rest⟩
theorem Bo.set{l:List (Int×Int)}(h:Bo w B v l)(hP:P<B)(i:Nat)(x:Value):Bo (w.setCell ⟨P,i,none⟩ x) B v l:=
 qq.kept h (Br (Bi w P) i x) (Or.inr (fun e=>by have:=(qq.lt h _ e).1;omega))
theorem Bo.low{l:List (Int×Int)}(h:Bo w B v l)(hB:B'<=B):Bo w B' v l:=by
 refine⟨h.1,?_⟩;rcases h.2 with hn|⟨g,cap,cur,hv,hb,rest⟩
 ·exact .inl hn
 ·exact .inr ⟨g,cap,cur,hv,by omega,rest⟩
theorem ownsRow_base_a{e size:Nat}{cs:List Value}(h:w.ownsRow B e size v n cs)(hB:B'<=B):w.ownsRow B' e size v n cs:=by
 refine⟨h.1,?_⟩;rcases h.2 with hn|⟨g,cap,cur,hv,hbg,rest⟩
 ·exact .inl hn
 ·exact .inr ⟨g,cap,cur,hv,qj hB hbg,rest⟩
theorem JZ(h:a.grownBy b (some P))(k:Below b b c):a.grownBy c (some P):=
 ⟨k.os.trans h.os,k.tape.trans h.tape,k.output.trans h.output,qj h.size k.size,fun j hj hne=>(k.block j (qv hj h.size)).trans (h.block j hj hne)⟩
theorem Ag.set0(h:Ag W P (.cells #[x,y] t))(v:Value):Ag (W.setCell ⟨P,0,none⟩ v) P (.cells #[v,y] t):=by
 unfold Ag at *;simp[zX,kY,h]
def Ge(base:Int)(f g:Nat->Int)(cat level:Int):Nat->List (Int×Int)×Bool
 |0=>([],level==base)
 |k+1=>
  let r:=Ge base f g cat level k
  let q:=if !r.2&&decide (cat<=f k)then(r.1++[(cat,level)],true)else r
  (if f k=cat then q.1 else q.1++[(f k,g k)],q.2)
def Fp(base:Int)(n:Nat)(f g:Nat->Int)(cat level:Int):List (Int×Int):=
 let r:=Ge base f g cat level n
 if r.2 then r.1 else r.1++[(cat,level)]
theorem Yy(base:Int)(f g:Nat->Int)(cat level:Int)(k:Nat):(Ge base f g cat level k).1.length<=2*k:=by
 induction k with
 |zero=>simp[Ge]
 |succ k ih=>
  simp only[Ge];split<;>split<;>(try simp only[List.length_append,List.length_singleton])<;>omega
open Go.Proofs.Tryz
open Go.Value renaming slice→qV,int→iT
open Go.IntKind renaming i64→qH
open Go.Obj renaming cells→qG
def Ix(l:List (Int×Int))(d:Bool)(cat level x:Int):List (Int×Int)×Bool:=if !d&&decide (cat<=x)then(l++[(cat,level)],true)else(l,d)
theorem Pr{base:Int}{f g:Nat->Int}{cat level:Int}{k:Nat}{l:List (Int×Int)}{d:Bool}(h:Ge base f g cat level k=(l,d)):
 Ge base f g cat level (k+1)=(if f k=cat then(Ix l d cat level (f k)).1 else(Ix l d cat level (f k)).1++[(f k,g k)],(Ix l d cat level (f k)).2):=by
 simp only[Ge,h,Ix]
theorem Zh(l:List (Int×Int))(d:Bool)(cat level x:Int):(Ix l d cat level x).1.length<=l.length+1:=by
 unfold Ix;split<;>simp
theorem Gz(base:Int)(a:Option Addr)(n cap:Nat)(f g:Nat->Int)(cat level:Int)(w:World)(hn:n<=1048576)(hc:Bd w a n f g):
 Calls prog 57 #[.agg #[iT qH base,qV a n cap],cat,iT qH level] w fun e w'=>∃va vc,e= .returned (.agg #[iT qH base,qV va (Fp base n f g cat level).length vc])/\
  Bo w' w (qV va (Fp base n f g cat level).length vc) (Fp base n f g cat level)/\Below w w w':=by
 have n3:No (qG #[iT qH base,qV none 0 0] 42):=⟨⟩;have n4:No (qG #[iT qH base,qV a n cap] 42):=⟨⟩;have n5:No (qG #[iT qH 0,qV none 0 0] 42):=⟨⟩;have hb0:=(((Below.refl _ w).alloc nr n4).alloc sI n5).alloc sO n3;have n1:Nw (((w.alloc n4).alloc n5).alloc n3):=⟨⟩;have X0:Ag n1 w n4:=((Ag.new w _).alloc _).alloc _;have Y0:Ag n1 (w.heap.size+1) n5:=by
  have:=(Ag.new (w.alloc n4) n5).alloc n3;simpa using this
 have Z0:Ag n1 (w.heap.size+1+1) n3:=by
  have:=Ag.new ((w.alloc n4).alloc n5) n3;simpa using this
 go_enter func57,ntmps57
 go_wp2;obtain⟨w4,hW0⟩:∃w4:World,n1=w4:=⟨_,rfl⟩;rw[hW0]at hb0 X0 Y0 Z0 ⊢;clear hW0;go_loopw [8,9] (fun d i wr=>∃(k:Nat) (v:Value),k<=n/\i= iT qH k/\d= .bool (Ge base f g cat level k).2/\Ag wr (w.heap.size+1+1) (qG #[iT qH base,v] 42)/\Bo wr w4 v (Ge base f g cat level k).1/\w4.grownBy wr (some (w.heap.size+1+1))) (fun _ i _=>n-(intOf i).toNat)
 case atStart=>exact⟨0,_,Nat.zero_le _,rfl,rfl,Z0,AO.nil _ _ _ _,Bi _ _⟩
 case round=>
  obtain⟨k,v,hk,rfl,rfl,hZ,hO,hg⟩:=hrel;have lz:=Z0.lt;have r1:wr.cell? ⟨w,0,none⟩=some (iT qH base):=(Ct hg X0.lt qQ).trans X0.two.1;have r2:wr.cell? ⟨w,1,none⟩=some (qV a n cap):=(Ct hg X0.lt qQ).trans X0.two.2;obtain⟨r3,r4⟩:=hZ.two;have hf1:=hZ.jQ 1;have lens:=Yy base f g cat level k;have hw4:=hg.size;by_cases hlt':k<n
  ·obtain⟨b,off,rfl,hlt,hcc⟩:=hc qQ;have hbl:b<w4.heap.size:=Nat.lt_of_lt_of_le hlt hb0.size;have g1:wr.cell? ⟨b,off+k*2,none⟩=some (iT qH (f k)):=(Ct hg hbl qQ).trans ((hb0.cell (p:=⟨b,_,none⟩) hlt).trans (hcc k hlt').1);have g2:wr.cell? ⟨b,off+k*2+1,none⟩=some (iT qH (g k)):=(Ct hg hbl qQ).trans ((hb0.cell (p:=⟨b,_,none⟩) hlt).trans (hcc k hlt').2);have HC1:Hid (w4.cell? ⟨b,off+k*2,none⟩=some (iT qH (f k))):=(hb0.cell (p:=⟨b,_,none⟩) hlt).trans (hcc k hlt').1;have HC2:Hid (w4.cell? ⟨b,off+k*2+1,none⟩=some (iT qH (g k))):=(hb0.cell (p:=⟨b,_,none⟩) hlt).trans (hcc k hlt').2;have i0:(0:Int)<=(k:Int):=qQ;have i1:(k:Int)<(n:Int):=qQ;generalize hR:Ge base f g cat level k=r at *;obtain⟨l,d⟩:=r;dsimp only at hO lens ⊢;have HO:Hid (Bo wr w4 v l):=hO;have HR:Hid (Ge base f g cat level k=(l,d)):=hR;have zz:w.heap.size+1+1<wr.heap.size:=hZ.lt;have HNE:Hid (some (w.heap.size+1+1)≠v.ownBlock):=fun e=>by have:=(qq.lt HO _ e.symm).1;omega
   clear hcc hO hR;obtain⟨tb,htb⟩:∃tb,tb=(!d&&decide (cat<=f k)):=⟨_,rfl⟩;have HTB:Hid (tb=(!d&&decide (cat<=f k))):=htb;clear htb;go_upto_region 6 with fail
   go_cut[35] (fun t wc=>t= .bool tb/\wc=wr)
   case first=>
    cases d with
    |true=>
     go_wp2_with fail
     go_meet;case rel=>exact⟨by rw[HTB.out];rfl,rfl⟩
    |false=>
     go_wp2_with fail
     go_meet;case rel=>exact⟨by rw[HTB.out];rfl,rfl⟩
   case rest=>
    obtain⟨rfl,rfl⟩:=hcut;go_upto_if 35 with fail
    go_cut[8] (fun dd wc=>∃v1:Value,dd= .bool (Ix l d cat level (f k)).2/\Ag wc (w.heap.size+1+1) (qG #[iT qH base,v1] 42)/\Bo wc w4 v1 (Ix l d cat level (f k)).1/\w4.grownBy wc (some (w.heap.size+1+1)))
    case first=>
     cases tb with
     |true=>
      have HP:Hid (Ix l d cat level (f k)=(l++[(cat,level)],true)):=by
       show _=_;unfold Ix;rw[if_pos HTB.out.symm]
      go_wp2_with(at_builtin;refine Hv _ rfl _ _ rfl w4 _ _ _ _ rfl (AO.alloc HO _) _ 1 1 (fun _=>cat) (fun _=>level) rfl (N0 _ _ _) qQ sO ?_;intro a' c' w' hown' hgrow' hat';have hZ':=(hZ.alloc (qG #[cat,iT qH level] 96)).grown hgrow' (HNE);obtain⟨p1,p2⟩:=hZ'.two;have pf:=hZ'.jQ 1)
      go_meet;case rel=>
       have hgN:w4.grownBy w' (some (w.heap.size+1+1)):=Cw (Cw hg (World.grownBy_alloc _ _ none) (fun j e=>by cases e)) hgrow' (fun j e=>(qq.lt HO j e).1);refine⟨_,by rw[HP.out],hZ'.set1 _,?_,Br hgN _ _⟩;rw[HP.out];have hs:=Bo.snoc hown';exact qq.kept hs (Br (Bi w' _) _ _) (Or.inr (fun e=>by have:=(qq.lt hs _ e).1;omega))
     |false=>
      have HP:Hid (Ix l d cat level (f k)=(l,d)):=by
       show _=_;unfold Ix;rw[if_neg (by rw[<-HTB.out];simp)]
      go_wp2_with fail
      go_meet;case rel=>exact⟨v,by rw[HP.out],hZ,by rw[HP.out];exact HO.out,hg⟩
    case rest=>
     obtain⟨v1,rfl,hZ1,hO1,hg1⟩:=hcut;have y1:wc.cell? ⟨w,0,none⟩=some (iT qH base):=(Ct hg1 X0.lt qQ).trans X0.two.1;have y2:wc.cell? ⟨w,1,none⟩=some (qV (some ⟨b,off,none⟩) n cap):=(Ct hg1 X0.lt qQ).trans X0.two.2;obtain⟨y3,y4⟩:=hZ1.two;have yf:=hZ1.jQ 1;have e1:wc.cell? ⟨b,off+k*2,none⟩=some (iT qH (f k)):=(Ct hg1 hbl qQ).trans HC1.out;have e2:wc.cell? ⟨b,off+k*2+1,none⟩=some (iT qH (g k)):=(Ct hg1 hbl qQ).trans HC2.out;have hs1:=hg1.size;have lenq:=Zh l d cat level (f k);have HO1:Hid (Bo wc w4 v1 (Ix l d cat level (f k)).1):=hO1;have HR1:Hid (Ge base f g cat level (k+1)=(if f k=cat then(Ix l d cat level (f k)).1 else(Ix l d cat level (f k)).1++[(f k,g k)],(Ix l d cat level (f k)).2)):=Pr HR.out;generalize Ix l d cat level (f k)=q at *;obtain⟨l1,d1⟩:=q;dsimp only at lenq ⊢;clear g1 g2 r1 r2 r3 r4 hf1 hZ hg HTB HNE HO hO1 HR;by_cases t:f k=cat
     ·have t':(f k != cat)=false:=(by simpa using t);have HT:Hid (f k=cat):=t;clear t;go_wp2;go_roundw;case rel=>
       exact⟨k+1,v1,by omega,by go_num,by rw[HR1.out],hZ1,by rw[HR1.out,if_pos HT.out];exact HO1.out,hg1⟩
      case measure=>simp[intOf];omega
     ·have t':(f k != cat)=true:=(by simpa using t);have HT:Hid (¬f k=cat):=t;have n2:Nw (wc.alloc (qG #[iT qH (f k),iT qH (g k)] 96)):=⟨⟩;have HOa:AO ((n2:World).drew) w4 v1 l1.length (Db l1) (Dc l1):=AO.alloc HO1 _;have HOC:Bd ((n2:World).drew) (some ⟨wc,0,none⟩) 1 (fun _=>f k) (fun _=>g k):=(N0 wc (f k) (g k)).below (Below.refl _ _).drew;have hbs:w4.heap.size<=((n2:World).drew).heap.size:=(by show w4.heap.size<=(wc.alloc _).heap.size;simp;omega);have HNE:Hid (some (w.heap.size+1+1)≠v1.ownBlock):=fun e=>by have:=(qq.lt HO1 _ e.symm).1;omega
      have zz:w.heap.size+1+1<wc.heap.size:=hZ1.lt;have zb:b<wc.heap.size:=qQ;have zn:w.heap.size<wc.heap.size:=qQ;have hZd:Ag ((n2:World).drew) (w.heap.size+1+1) (qG #[iT qH base,v1] 42):=hZ1.alloc _;clear t;go_wp2_with fail
      go_region_law((refine Fu _ qK _ _ qK w4 v1 _ _ _ qK HOa _ 1 1 (fun _=>f k) (fun _=>g k) qK HOC qQ hbs ?_;intro a' c' w' hown' hgrow' hat';have hZ':=Ag.grown hZd hgrow' (HNE);obtain⟨p1,p2⟩:=hZ'.two;have pf:=hZ'.jQ 1))
      all_goals
       clear HOa HOC hbs hZd;go_wp2;go_roundw;case rel=>
        have hgd:w4.grownBy n2 (some (w.heap.size+1+1)):=Cw hg1 (World.grownBy_alloc _ _ none) (fun j e=>by cases e);have hge:w4.grownBy (n2:World).drew (some (w.heap.size+1+1)):=⟨hgd.os,hgd.tape,hgd.output,hgd.size,hgd.block⟩;have hgN:w4.grownBy w' (some (w.heap.size+1+1)):=Cw hge hgrow' (fun j e=>(qq.lt HO1 j e).1);have hs:=Bo.snoc hown';exact⟨k+1,_,by omega,by go_num,by rw[HR1.out],hZ'.set1 _,by rw[HR1.out,if_neg HT.out];exact qq.kept hs (Br (Bi w' _) _ _) (Or.inr (fun e=>by have:=(qq.lt hs _ e).1;omega)),Br hgN _ _⟩
       case measure=>simp[intOf];omega
  ·have e:k=n:=qQ;subst e;clear hc;generalize hR:Ge base f g cat level k=r at *;obtain⟨l,d⟩:=r;dsimp only at hO lens ⊢;have HO:Hid (Bo wr w4 v l):=hO;have y0:wr.cell? ⟨w.heap.size+1,0,none⟩=some (iT qH 0):=(Ct hg Y0.lt qQ).trans Y0.two.1;have y1:wr.cell? ⟨w.heap.size+1,1,none⟩=some (qV none 0 0):=(Ct hg Y0.lt qQ).trans Y0.two.2;have fz0:wr.frozen? ⟨w.heap.size+1,0,none⟩=false:=(Ha hg Y0.lt qQ).trans (Y0.jQ 0);have fz1:wr.frozen? ⟨w.heap.size+1,1,none⟩=false:=(Ha hg Y0.lt qQ).trans (Y0.jQ 1);have LW:Below w w wr:=hb0.grown hg hb0.size (fun j e=>by cases e;omega);have zz:w.heap.size+1+1<wr.heap.size:=hZ.lt;have HNE:Hid (some (w.heap.size+1+1)≠v.ownBlock):=fun e=>by have:=(qq.lt HO _ e.symm).1;omega
   cases d with
   |true=>
    have HF:Hid (Fp base k f g cat level=l):=(by show _=_;simp[Fp,hR]);obtain⟨va,vc,rfl⟩:=AO.shape hO;clear hR hO;go_wp2;refine bodyPost_ret (v:= .agg #[iT qH base,qV va l.length vc]) (by simp[results,Tryz.results57,go_sem, *]) rfl ⟨va,vc,by rw[HF.out],?_,?_⟩
    ·rw[HF.out];have hs:=HO.out;have h1:=qq.kept hs (Br (Br (Bi wr (w.heap.size+1)) 0 (iT qH base)) 1 (qV va l.length vc)) (Or.inr (fun e=>by have:=(qq.lt hs _ e).1;omega));exact ownsRow_base_a h1 (by have:=hb0.size;omega)
    ·exact(LW.setCell qJ _).setCell qJ _
   |false=>
    have HF:Hid (Fp base k f g cat level=l++[(cat,level)]):=(by show _=_;simp[Fp,hR]);have hYr:Ag wr (w.heap.size+1) (qG #[iT qH 0,qV none 0 0] 42):=Y0.grown hg sI;have HNE1:Hid (some (w.heap.size+1)≠v.ownBlock):=fun e=>by have:=(qq.lt HO _ e.symm).1;omega
    clear hR hO;have n6:No (qG #[cat,iT qH level] 96):=⟨⟩;go_wp2_with(at_builtin;refine Hv _ rfl _ _ rfl w4 _ _ _ _ rfl (AO.alloc HO _) _ 1 1 (fun _=>cat) (fun _=>level) rfl (N0 _ _ _) qQ sO ?_;intro a' c' w' hown' hgrow' hat';have hZ':=(hZ.alloc n6).grown hgrow' (HNE);obtain⟨p1,p2⟩:=hZ'.two;have pf:=hZ'.jQ 1;have hY':=(hYr.alloc n6).grown hgrow' (HNE1);obtain⟨s1,s2⟩:=hY'.two;have sf0:=hY'.jQ 0;have sf1:=hY'.jQ 1)
    have hlen:(l++[(cat,level)]).length=l.length+1:=sI;have LW':Below w w w':=(LW.alloc qQ _).grown hgrow' sO (fun j e=>by have:=(qq.lt HO j e).1;have:=hb0.size;omega);refine bodyPost_ret (v:= .agg #[iT qH base,qV a' (l.length+1) c']) (by simp[results,Tryz.results57,go_sem, *]) rfl ⟨a',c',by rw[HF.out,hlen],?_,?_⟩
    ·rw[HF.out,hlen];have hs:=Bo.snoc hown';have h0:=qq.kept hs (Br (Bi w' (w.heap.size+1+1)) 1 (qV a' (l.length+1) c')) (Or.inr (fun e=>by have:=(qq.lt hs _ e).1;omega));have h1:=qq.kept h0 (Br (Br (Bi _ (w.heap.size+1)) 0 (iT qH base)) 1 (qV a' (l.length+1) c')) (Or.inr (fun e=>by have:=(qq.lt h0 _ e).1;omega));exact ownsRow_base_a h1 (by have:=hb0.size;omega)
    ·exact((LW'.setCell qJ _).setCell qJ _).setCell qJ _
open Go.Ending renaming returned→rT
open Go renaming World→qM
variable {w0 w w':qM}{rb n cap P:Nat}{a:Option Addr}
def BytesAt(w:qM)(a:Option Addr)(n:Nat):Prop:=
 0<n->∃b off,a=some ⟨b,off,none⟩/\b<w.heap.size/\∀i,i<n->∃v:Int,w.cell? ⟨b,off+i,none⟩=some (.int .u8 v)/\0<=v/\v<256
structure Rd(w0 w:qM)(rb:Nat)(a:Option Addr)(n cap:Nat):Prop where
 E:Below w0 w0 w
 le:w0.heap.size<=rb
 bytes:BytesAt w0 a n
 hn:n<=1048576
 at':∃p:Nat,p<=n/\Ag w rb (.cells #[.slice a n cap,iT qH p] 65)
theorem Rd.below(h:Rd w0 w rb a n cap)(hb:Below w w w'):Rd w0 w' rb a n cap:=by
 obtain⟨E,le,by',hn,p,hp,hB⟩:=h;exact⟨E.trans (hb.mono E.size),le,by',hn,p,hp,hB.below hb⟩
theorem Rd.other(h:Rd w0 w rb a n cap)(hg:w.grownBy w' (some P))(hP:w0.heap.size<=P)(hne:rb≠P):Rd w0 w' rb a n cap:=by
 obtain⟨E,le,by',hn,p,hp,hB⟩:=h;exact⟨E.grown hg E.size (fun j e=>by cases e;exact hP),le,by',hn,p,hp,hB.grown hg (by simpa using hne)⟩
theorem Rd.drew(h:Rd w0 w rb a n cap):Rd w0 w.drew rb a n cap:=h.below (Below.refl _ _).drew
theorem Rd.lt(h:Rd w0 w rb a n cap):rb<w.heap.size:=by
 obtain⟨_,_,_,_,p,_,hB⟩:=h;exact hB.lt
theorem Cu{a b c:qM}(h:a.grownBy b (some P))(k:b.grownBy c (some P)):a.grownBy c (some P):=
 ⟨k.os.trans h.os,k.tape.trans h.tape,k.output.trans h.output,Nat.le_trans h.size k.size,fun j hj hne=>(k.block j (qv hj h.size) hne).trans (h.block j hj hne)⟩
theorem KZ(w:qM)(P:Nat):w.grownBy w.drew (some P):=⟨rfl,rfl,rfl,Nat.le_refl _,fun _ _ _=>rfl⟩
theorem Mi(w0:qM)(rb:Nat)(a:Option Addr)(n cap:Nat)(w:qM)(h:Rd w0 w rb a n cap):
 Calls prog 53 #[.pointer rb] w fun e w'=>∃x:Int,e= rT (iT qH x)/\0<=x/\x<256/\Rd w0 w' rb a n cap/\w.grownBy w' (some rb):=by
 obtain⟨E,le,by',hn,p,hp,hB⟩:=h;obtain⟨x1,x2⟩:=hB.two;have f1:=hB.jQ 1;by_cases t:p<n
 ·obtain⟨b,off,rfl,hlt,hc⟩:=by' qQ;obtain⟨v,hv,v0,v1⟩:=hc p t;have r1:w.cell? ⟨b,off+p,none⟩=some (.int .u8 v):=(E.cell (p:=⟨b,off+p,none⟩) hlt).trans hv;have hne:b≠rb:=by omega
  have i0:(0:Int)<=(p:Int):=by omega
  have i1:(p:Int)<(n:Int):=by omega
  have HB:Hid (Ag w rb (.cells #[.slice (some ⟨b,off,none⟩) n cap,iT qH p] 65)):=hB;have HBY:Hid (BytesAt w0 (some ⟨b,off,none⟩) n):=by';clear hc hv hB by';go_enter func53,ntmps53
  go_wp2_with fail
  go_region_held3(fun w'=>w'.cell? ⟨rb,0,none⟩=some (.slice (some ⟨b,off,none⟩) n cap)/\w'.cell? ⟨rb,1,none⟩=some (iT qH p)) (go_keep) (fail)
  go_wp2_with fail
  have B2:Ag (w.setCell ⟨rb,1,none⟩ (iT qH ((p:Int)+1))).drew rb (.cells #[.slice (some ⟨b,off,none⟩) n cap,iT qH ((p:Int)+1)] 65):=HB.out.set1 _;have g2:w.grownBy (w.setCell ⟨rb,1,none⟩ (iT qH ((p:Int)+1))).drew (some rb):=Cu (Br (Bi _ _) _ _) (KZ _ _);generalize (w.setCell ⟨rb,1,none⟩ (iT qH ((p:Int)+1))).drew=W2 at *;have r2:W2.cell? ⟨b,off+p,none⟩=some (.int .u8 v):=(Ct g2 (qv hlt E.size) hne).trans r1;obtain⟨y1,y2⟩:=B2.two;have w1:IntKind.i64.wrap ((p:Int)+1-1)=(p:Int):=by rw[IntKind.wrap_i64];omega
  have w2:IntKind.i64.wrap (p:Int)=(p:Int):=by rw[IntKind.wrap_i64];omega
  clear x1 x2 f1 r1;go_region_held3(fun w'=>w'.cell? ⟨rb,0,none⟩=some (.slice (some ⟨b,off,none⟩) n cap)/\w'.cell? ⟨rb,1,none⟩=some (iT qH ((p:Int)+1))/\w'.cell? ⟨b,off+p,none⟩=some (.int .u8 v)) (go_keep) (fail)
  go_wp2;go_ret;refine⟨_,rfl,?_,?_,Rd.drew ⟨E.grown g2 E.size (fun j e=>by cases e;exact le),le,HBY,hn,p+1,by omega,by simpa using B2⟩,Cu g2 (KZ _ _)⟩
  ·rw[IntKind.wrap_i64];omega
  ·rw[IntKind.wrap_i64];omega
 ·have e:p=n:=by omega
  subst e;have HB:Hid (Ag w rb (.cells #[.slice a p cap,iT qH p] 65)):=hB;have HBY:Hid (BytesAt w0 a p):=by';clear hB by';go_enter func53,ntmps53
  go_wp2_with fail
  go_region_held3(fun w'=>w'.cell? ⟨rb,0,none⟩=some (.slice a p cap)/\w'.cell? ⟨rb,1,none⟩=some (iT qH p)) (go_keep) (fail)
  go_wp2;go_ret;exact⟨0,rfl,by omega,by omega,Rd.drew ⟨E,le,HBY,hn,p,hp,HB⟩,KZ _ _⟩
theorem AF(w0:qM)(rb:Nat)(a:Option Addr)(n cap:Nat)(m:Nat)(w:qM)(hm:m<=65536)(h:Rd w0 w rb a n cap):
 Calls prog 26 #[.pointer rb,iT qH m] w fun e w'=>∃x:Nat,e= rT (iT qH x)/\x<m+1/\(1<=m->x<m)/\Rd w0 w' rb a n cap/\w.grownBy w' (some rb):=by
 have HR:Hid (Rd w0 w rb a n cap):=h;clear h;by_cases t:m<=1
 ·have t':(m:Int)<=1:=by omega
  go_enter func26,ntmps26
  go_wp2;go_ret;exact⟨0,rfl,by omega,by omega,HR,Bi _ _⟩
 ·have t':¬(m:Int)<=1:=by omega
  have m0:(m:Int)≠0:=by omega
  by_cases t2:m<=256
  ·have t2':(m:Int)<=256:=qQ;go_enter func26,ntmps26
   go_wp2_with fail
   refine(Mi w0 rb a n cap _ HR).mono ?_;rintro e w1 ⟨x,rfl,x0,x1,R1,g1⟩;obtain⟨y,rfl⟩:∃y:Nat,x=y:=⟨x.toNat,by omega⟩;have HR1:Hid (Rd w0 w1 rb a n cap):=R1;clear R1;go_wp2;go_ret;refine⟨y%m,Fw ?_,?_,fun _=>Nat.mod_lt _ qQ,HR1,g1⟩
   ·simp
   ·have:=Nat.mod_lt y (show 0<m by omega);omega
  ·have t2':¬(m:Int)<=256:=qQ;go_enter func26,ntmps26
   go_wp2_with fail
   refine(Mi w0 rb a n cap _ HR).mono ?_;rintro e w1 ⟨x,rfl,x0,x1,R1,g1⟩;obtain⟨y,rfl⟩:∃y:Nat,x=y:=⟨x.toNat,by omega⟩;have wy:IntKind.i64.wrap ((y:Int)*256)=(y:Int)*256:=(by rw[IntKind.wrap_i64];omega);have HR1:Hid (Rd w0 w1 rb a n cap):=R1;clear R1;go_wp2_with fail
   refine(Mi w0 rb a n cap _ HR1).mono ?_;rintro e w2 ⟨x,rfl,x2,x3,R2,g2⟩;obtain⟨z,rfl⟩:∃z:Nat,x=z:=⟨x.toNat,by omega⟩;have wz:IntKind.i64.wrap ((y:Int)*256+(z:Int))=(y:Int)*256+(z:Int):=(by rw[IntKind.wrap_i64];omega);have yz:(0:Int)<=(y:Int)*256+(z:Int):=qQ;have HR2:Hid (Rd w0 w2 rb a n cap):=R2;clear R2;go_wp2;go_ret;refine⟨(y*256+z)%m,Fw ?_,?_,fun _=>Nat.mod_lt _ qQ,HR2,Cu g1 g2⟩
   ·simp
   ·have:=Nat.mod_lt (y*256+z) (show 0<m by omega);omega
theorem Eb(w0:qM)(rb:Nat)(a:Option Addr)(n cap:Nat)(m:Nat)(w:qM)(hm:m<=65536)(h:Rd w0 w rb a n cap):
 Calls prog 54 #[.pointer rb,iT qH m] w fun e w'=>∃t:Bool,e= rT (.bool t)/\Rd w0 w' rb a n cap/\w.grownBy w' (some rb):=by
 have HR:Hid (Rd w0 w rb a n cap):=h;clear h;go_enter func54,ntmps54
 go_wp2_with fail
 refine(AF w0 rb a n cap m _ hm HR).mono ?_;rintro e w1 ⟨x,rfl,_,_,R1,g1⟩;have HR1:Hid (Rd w0 w1 rb a n cap):=R1;have wm:IntKind.i64.wrap ((m:Int)-1)=(m:Int)-1:=by rw[IntKind.wrap_i64];omega
 clear R1;go_wp2;go_ret;exact⟨_,rfl,HR1,g1⟩
theorem Tq(w0:qM)(rb:Nat)(a:Option Addr)(n cap:Nat)(w:qM)(h:Rd w0 w rb a n cap):
 Calls prog 128 #[.pointer rb] w fun e w'=>∃x:Int,e= rT (.int .u64 x)/\Rd w0 w' rb a n cap/\w.grownBy w' (some rb):=by
 have HR:Hid (Rd w0 w rb a n cap):=h;clear h;go_enter func128,ntmps128
 go_wp2;go_loopw [3,4] (fun v i wr=>∃(k:Nat) (x:Int),k<=8/\i= iT qH k/\v= .int .u64 x/\Rd w0 wr rb a n cap/\w.grownBy wr (some rb)) (fun _ i _=>8-(intOf i).toNat)
 case atStart=>exact⟨0,0,by omega,rfl,rfl,HR,Bi _ _⟩
 case round=>
  obtain⟨k,x,hk,rfl,rfl,R1,g1⟩:=hrel;have HR1:Hid (Rd w0 wr rb a n cap):=R1;clear R1;by_cases t:k<8
  ·have t':(k:Int)<8:=qQ;go_wp2_with fail
   refine(Mi w0 rb a n cap _ HR1).mono ?_;rintro e w2 ⟨y,rfl,y0,y1,R2,g2⟩;have HR2:Hid (Rd w0 w2 rb a n cap):=R2;clear R2;go_wp2;go_roundw;case rel=>exact⟨k+1,_,by omega,by go_num,rfl,HR2,Cu g1 g2⟩
   case measure=>simp[intOf];omega
  ·have t':¬(k:Int)<8:=qQ;go_wp2;go_ret;exact⟨⟨x,rfl⟩,HR1,g1⟩
theorem YU(w0:qM)(rb:Nat)(a:Option Addr)(n cap:Nat)(lo hi:Nat)(w:qM)(hl:lo<=hi)(hh:hi<=1000)(h:Rd w0 w rb a n cap):
 Calls prog 101 #[.pointer rb,iT qH lo,iT qH hi] w fun e w'=>∃x:Int,e= rT (iT qH x)/\Rd w0 w' rb a n cap/\w.grownBy w' (some rb):=by
 have HR:Hid (Rd w0 w rb a n cap):=h;clear h;have w1:IntKind.i64.wrap ((hi:Int)-lo)=(hi:Int)-lo:=by rw[IntKind.wrap_i64];omega
 have w2:IntKind.i64.wrap ((hi:Int)-lo+1)=(hi:Int)-lo+1:=by rw[IntKind.wrap_i64];omega
 have nl:¬(hi:Int)<(lo:Int):=by omega
 go_enter func101,ntmps101
 go_wp2_with fail
 refine(AF w0 rb a n cap 8 _ qQ HR).mono ?_;rintro e u1 ⟨x,rfl,_,x8,R1,g1⟩;have HR1:Hid (Rd w0 u1 rb a n cap):=R1;clear R1;by_cases t0:x=0
 ·subst t0;go_wp2;go_ret;exact⟨_,rfl,HR1,g1⟩
 ·by_cases t1:x=1
  ·subst t1;go_wp2;go_ret;exact⟨_,rfl,HR1,g1⟩
  ·have t0':((x:Int)==0)=false:=(by simpa using t0);have t1':((x:Int)==1)=false:=sO;go_wp2_with fail
   refine(Tq w0 rb a n cap _ HR1).mono ?_;rintro e u2 ⟨y,rfl,R2,g2⟩;have HR2:Hid (Rd w0 u2 rb a n cap):=R2;clear R2;have m1:IntKind.u64.wrap ((hi:Int)-lo+1)=(hi:Int)-lo+1:=(by rw[IntKind.wrap_u64];omega);have m0:¬((hi:Int)-lo+1)=0:=qQ;go_wp2;go_ret;exact⟨_,rfl,HR2,Cu g1 g2⟩
open Go.World renaming cell?→xW
theorem bT(w0:World)(rb:Nat)(a:Option Addr)(n cap:Nat)(lo hi:Nat)(w:World)(hl:lo<=hi)(hh:hi<=1000)(h:Rd w0 w rb a n cap):
 Calls prog 52 #[.pointer rb,.int .i64 lo,.int .i64 hi] w fun e w'=>∃x:Int,e= .returned (.int .i64 x)/\Rd w0 w' rb a n cap/\w.grownBy w' (some rb):=by
 have HR:Hid (Rd w0 w rb a n cap):=h;clear h;have w1:IntKind.i64.wrap ((lo:Int)-1)=(lo:Int)-1:=by rw[IntKind.wrap_i64];omega
 have w2:IntKind.i64.wrap ((hi:Int)+1)=(hi:Int)+1:=by rw[IntKind.wrap_i64];omega
 go_enter func52,ntmps52
 go_wp2_with fail
 refine(Eb w0 rb a n cap 24 _ qQ HR).mono ?_;rintro e u1 ⟨t,rfl,R1,g1⟩;have HR1:Hid (Rd w0 u1 rb a n cap):=R1;clear R1;cases t with
 |true=>
  go_wp2_with fail
  have lr:=HR1.out.lt;refine(AF w0 rb a n cap 4 _ qQ (HR1.out.below (Bg _ _))).mono ?_;rintro e u2 ⟨x,rfl,_,x4,R2,g2⟩;have x4':=x4 qQ;have HR2:Hid (Rd w0 u2 rb a n cap):=R2;have gN:w.grownBy u2 (some rb):=Cu (Cw g1 (World.grownBy_alloc u1 _ none) (fun j e=>by cases e)) g2;have Bk:Ag u2 u1 (.cells #[.int .i64 ((lo:Int)-1),.int .i64 ((hi:Int)+1),.int .i64 (-9223372036854775808),.int .i64 9223372036854775807] 2):=(Ag.new u1 _).grown g2 sO;unfold Ag at Bk;have c0:u2.cell? ⟨u1,0,none⟩=some (.int .i64 ((lo:Int)-1)):=by simp[xW,Bk]
  have c1:u2.cell? ⟨u1,1,none⟩=some (.int .i64 ((hi:Int)+1)):=by simp[xW,Bk]
  have c2:u2.cell? ⟨u1,2,none⟩=some (.int .i64 (-9223372036854775808)):=by simp[xW,Bk]
  have c3:u2.cell? ⟨u1,3,none⟩=some (.int .i64 9223372036854775807):=by simp[xW,Bk]
  clear R2 x4 Bk g2;have hx:x=0∨x=1∨x=2∨x=3:=by omega
  rcases hx with rfl|rfl|rfl|rfl;all_goals
   clear x4';go_wp2;go_ret;exact⟨_,rfl,HR2,gN⟩
 |false=>
  go_wp2_with fail
  refine(YU w0 rb a n cap lo hi _ hl hh HR1).mono ?_;rintro e u2 ⟨x,rfl,R2,g2⟩;have HR2:Hid (Rd w0 u2 rb a n cap):=R2;clear R2;go_wp2;go_ret;exact⟨_,rfl,HR2,Cu g1 g2⟩
open Go.Region renaming ready→jk,binds→kD,noSelect→xU
section
variable {P:Program}{ops:Array Oper}{Q:Exit->Act->qM->Prop}{md:Region.Mode}{S:qM->Prop}{n:Nat}
def Cq(P:Program)(md:Region.Mode)(ops:Array Oper)(Q:Exit->Act->qM->Prop)(S:qM->Prop)(n:Nat)(f:Nat)(L:Array Bool)(a:Act)(w:qM):Prop:=
 match f with
 |0=>jk md ops L=[]/\Q .normal a w
 |f+1=>(jk md ops L=[]->Q .normal a w)/\
  ∀i∈jk md ops L,wpOp P ops Q i (fun a' w'=>(i≠n->S w')/\Cq P md ops Q S n f (L.setIfInBounds i true) a' w') a w
theorem Cq.any{f:Nat}:∀{L:Array Bool}{a:Act}{w:qM},Cq P md ops Q S n f L a w->wpAny P md ops Q f L a w:=by
 induction f with
 |zero=>intro L a w h;exact h
 |succ f ih=>intro L a w h;exact⟨h.1,fun i hi=>wpOp_mono (fun _ _ k=>ih k.2) (h.2 i hi)⟩
theorem OT{i:Nat}{L:Array Bool}(h:i∈jk md ops L):L.getD i false=false:=by
 have h0:=(mem_ready.1 h).1;by_cases hl:i<L.size
 ·simp[hl]at h0 ⊢;exact h0
 ·simp[Array.getElem?_eq_none (Nat.le_of_not_lt hl)]
theorem Cq.takes{i:Nat}{oi:Oper}{v:Value}(hi:ops[i]? =some oi)(hs:xU ops=true)
 (hwait:∀o,ops[n]? =some o->∃e∈o.after,kD md e=true/\e.on=i)
 (hQ:∀c a w,Q (.panic c) (a.put oi.dst v) w->Q (.panic c) a w)(f:Nat):∀{L:Array Bool}{a:Act}{w:qM},
 (∀j oj,ops[j]? =some oj->j≠i->L.getD j true=false->(∀e∈oj.after,kD md e=true->e.on≠i)->oi.apart ops oj=true)->
 i∈jk md ops L->YieldsIf P ops S oi v a->S w->Cq P md ops Q S n f (L.setIfInBounds i true) (a.put oi.dst v) w->Cq P md ops Q S n (f+1) L a w:=by
 have sel:=Region.noSelect_spec hs;induction f with
 |zero=>
  intro L a w _ hr hy hS H;refine⟨fun e=>absurd hr (by rw[e];simp),fun j hj=>?_⟩;by_cases e:j=i
  ·subst e;exact hy.wpOp hi hS ⟨fun _=>hS,H⟩
  ·have:=ready_mono hj e;rw[H.1]at this;simp at this
 |succ f ih=>
  intro L a w hfree hr hy hS H;refine⟨fun e=>absurd hr (by rw[e];simp),fun j hj=>?_⟩;by_cases e:j=i
  ·subst e;exact hy.wpOp hi hS ⟨fun _=>hS,H⟩
  ·obtain⟨hun,oj,hoj,hall⟩:=mem_ready.1 hj;have un:=OT hr;have apart:∀x∈oj.after,kD md x=true->x.on≠i:=fun x hx hb hq=>by
    have:=hall x hx hb;rw[hq,un]at this;cases this
   have hjn:j≠n:=fun hq=>by
    obtain⟨x,hx,hb,ho⟩:=hwait oj (by rw[<-hq];exact hoj);exact apart x hx hb ho
   refine wpOp_mono (fun a' w' k=>⟨fun _=>k.2.1 hjn,?_⟩) (wpOp_putIf hoj (hfree j oj hoj e hun apart) (fun cs b=>sel i oi cs b hi) (fun cs b=>sel j oj cs b hoj) hQ hy (H.2 j (ready_mono hj e)));refine ih (fun k ok hk hki hkl hkn=>hfree k ok hk hki ?_ hkn) (ready_mono hr (Ne.symm e)) k.1 (k.2.1 hjn) ?_
   ·by_cases q:j=k
    ·subst q;exact hun
    ·rw[getD_set_ne true q]at hkl;exact hkl
   ·rw[Array.setIfInBounds_comm _ _ e];exact k.2.2
def VK(md:Region.Mode)(ops:Array Oper)(n i:Nat):Bool:=match ops[n]? with
 |some o=>o.after.any (fun e=>kD md e&&e.on==i)
 |none=>true
theorem X9{i:Nat}(h:VK md ops n i=true):∀o,ops[n]? =some o->∃e∈o.after,kD md e=true/\e.on=i:=fun o ho=>by
 unfold VK at h;rw[ho]at h;dsimp only at h;obtain⟨e,he,hb⟩:=Array.any_eq_true'.1 h;simp only[Bool.and_eq_true,beq_iff_eq]at hb;exact⟨e,he,hb⟩
theorem Cq.take{i:Nat}{oi:Oper}(v:Value){f:Nat}{L:Array Bool}{a:Act}{w:qM}(hi:ops[i]? =some oi)(hs:xU ops=true)(hf:Region.free md ops L i=true)
 (hr:(jk md ops L).contains i=true)(hw:VK md ops n i=true)(hQ:∀c a w,Q (.panic c) (a.put oi.dst v) w->Q (.panic c) a w)(hS:S w)
 (hy:YieldsIf P ops S oi v a)(h:Cq P md ops Q S n f (L.setIfInBounds i true) (a.put oi.dst v) w):Cq P md ops Q S n (f+1) L a w:=
 Cq.takes hi hs (X9 hw) hQ f (Region.free_spec hi hf) (by simpa using hr) hy hS h
theorem Cq.one{i:Nat}{o:Oper}{f:Nat}{L:Array Bool}{a:Act}{w:qM}(hi:ops[i]? =some o)(hr:jk md ops L=[i])
 (h:∀K':Act->qM->Prop,Hid (∀a w,(i≠n->S w)->Cq P md ops Q S n f (L.setIfInBounds i true) a w->K' a w)->if Region.wanted o (yielded ops a.tmps)=true then Oper.wp P o a w K' Q else K' (a.put o.dst undef) w):Cq P md ops Q S n (f+1) L a w:=
 ⟨fun e=>absurd (hr.symm.trans e) sI,fun j hj=>by
   rw[hr]at hj;obtain rfl:j=i:=by simpa using hj
   exact wpOp_step hi (fun K' hK=>h K' (fun a w h1 h2=>hK a w ⟨h1,h2⟩))⟩
theorem Cq.done{f:Nat}{L:Array Bool}{a:Act}{w:qM}(hr:jk md ops L=[])(h:Q .normal a w):Cq P md ops Q S n f L a w:=by
 cases f with
 |zero=>exact⟨hr,h⟩
 |succ f=>exact⟨fun _=>h,fun i hi=>by rw[hr]at hi;simp at hi⟩
theorem Cq.region{id:Nat}{a:Act}{w:qM}(S:qM->Prop)(n:Nat)(hm:P.follows .mixedOrders=true)(h:Cq P .any ops Q S n ops.size (Array.replicate ops.size false) a w.drew):(Code.region id ops true).wp P Q a w:=
 wp_region_any hm h.any
end
open _root_.List renaming length_append→jU
open Go.Region renaming wanted→jW
theorem Vx(base:Int)(f g:Nat->Int)(cat level:Int)(k:Nat):(Ge base f g cat level k).1.length<=k+(Ge base f g cat level k).2.toNat:=by
 induction k with
 |zero=>simp[Ge]
 |succ k ih=>
  generalize hR:Ge base f g cat level k=r at ih;obtain⟨l,d⟩:=r;rw[Pr hR];dsimp only at ih ⊢;have h2:(Ix l d cat level (f k)).1.length<=k+(Ix l d cat level (f k)).2.toNat:=by
   unfold Ix;cases d with
   |true=>simpa using ih
   |false=>
    split
    ·simp only[jU,List.length_singleton,Bool.toNat_true];simp only[Bool.toNat_false]at ih;omega
    ·exact ih
  split
  ·omega
  ·rw[jU];show _+1<=_;omega
theorem Fi(base:Int)(n:Nat)(f g:Nat->Int)(cat level:Int):(Fp base n f g cat level).length<=n+1:=by
 have:=Vx base f g cat level n;unfold Fp;dsimp only;generalize Ge base f g cat level n=r at this;obtain⟨l,d⟩:=r;cases d with
 |true=>simpa using this
 |false=>
  simp only[Bool.toNat_false]at this;simp only[Bool.false_eq_true,if_false,jU,List.length_singleton];omega
structure Tc(w0 w W:qM)(rb:Nat)(a:Option Addr)(n cap:Nat)(Z:Nat)(base:Int)(va:Option Addr)(vc:Nat)(l:List (Int×Int)):Prop where
 z:Ag W Z (.cells #[.int .i64 base,.slice va l.length vc] 42)
 r:Rd w0 W rb a n cap
 o:Bo W (Z+1) (.slice va l.length vc) l
 g:w.grownBy W (some rb)
section
variable {w0 w W W':qM}{rb:Nat}{a:Option Addr}{n cap Z:Nat}{base:Int}{va:Option Addr}{vc:Nat}{l:List (Int×Int)}
theorem Tc.below(h:Tc w0 w W rb a n cap Z base va vc l)(hb:Below W W W'):Tc w0 w W' rb a n cap Z base va vc l:=
 ⟨h.z.below hb,h.r.below hb,Bo.below h.o hb,JZ h.g hb⟩
theorem Tc.call(h:Tc w0 w W rb a n cap Z base va vc l)(hz:rb<Z)(r:Rd w0 W' rb a n cap)(hg:W.grownBy W' (some rb)):Tc w0 w W' rb a n cap Z base va vc l:=
 ⟨h.z.grown hg sO,r,qq.kept h.o hg (Or.inr (fun e=>by have:=(qq.lt h.o _ e).1;omega)),Cu h.g hg⟩
theorem Ex{x y:qM}{P Z:Nat}(h:x.grownBy y (some P))(hz:x.heap.size<=Z)(i:Nat)(v:Value):x.grownBy (y.setCell ⟨Z,i,none⟩ v) (some P):=
 ⟨h.os,h.tape,h.output,by rw[nblk_setCell];exact h.size,fun j hj hne=>(blk_setCell_other _ _ _ _ qJ).trans (h.block j hj hne)⟩
theorem Rd.set(h:Rd w0 W rb a n cap)(hz:rb<Z)(i:Nat)(v:Value):Rd w0 (W.setCell ⟨Z,i,none⟩ v) rb a n cap:=by
 obtain⟨E,le,by',hn,p,hp,hB⟩:=h;exact⟨E.setCell qJ _,le,by',hn,p,hp,(blk_setCell_other _ _ _ _ qJ).trans hB⟩
theorem Tc.put{l':List (Int×Int)}{ua:Option Addr}{uc:Nat}(h:Tc w0 w W rb a n cap Z base va vc l)(hz:rb<Z)(hw:w.heap.size<=Z)(o':Bo W (Z+1) (.slice ua l'.length uc) l'):
 Tc w0 w ((W.setCell ⟨Z,0,none⟩ (.int .i64 base)).setCell ⟨Z,1,none⟩ (.slice ua l'.length uc)) rb a n cap Z base ua uc l':=
 ⟨(h.z.set0 _).set1 _,(h.r.set hz _ _).set hz _ _,Bo.set (Bo.set o' qQ _ _) qQ _ _,Ex (Ex h.g hw _ _) hw _ _⟩
theorem Tc.put0(h:Tc w0 w W rb a n cap Z base va vc l)(hz:rb<Z)(hw:w.heap.size<=Z)(b':Int):
 Tc w0 w (W.setCell ⟨Z,0,none⟩ (.int .i64 b')) rb a n cap Z b' va vc l:=
 ⟨h.z.set0 _,h.r.set hz _ _,Bo.set h.o qQ _ _,Ex h.g hw _ _⟩
theorem Tc.frame{row:Option Nat}(h:Tc w0 w W rb a n cap Z base va vc l)(hz:rb<Z)(hw:w.heap.size<=Z)(hg:W.grownBy W' row)(hr:∀j,row=some j->Z+1<=j):
 Ag W' Z (.cells #[.int .i64 base,.slice va l.length vc] 42)/\Rd w0 W' rb a n cap/\w.grownBy W' (some rb):=by
 refine⟨h.z.grown hg (fun e=>by have:=hr Z e.symm;omega),?_,Cw h.g hg (fun j e=>by have:=hr j e;omega)⟩;obtain⟨E,le,by',hn,p,hp,hB⟩:=h.r;exact⟨E.grown hg E.size (fun j e=>by have:=hr j e;omega),le,by',hn,p,hp,hB.grown hg (fun e=>by have:=hr rb e.symm;omega)⟩
end
def Jy(x:Nat):Int:=if x=0 then 1001 else if x=1 then 2001 else if x=2 then 3001 else 5
theorem Jq{W:qM}{q:Nat}(h:Ag W q (.cells #[.int .i64 1001,.int .i64 2001,.int .i64 3001,.int .i64 5] 2)){x:Nat}(hx:x<4):W.cell? ⟨q,x,none⟩=some (.int .i64 (Jy x)):=by
 unfold Ag at h;have:x=0∨x=1∨x=2∨x=3:=by omega
 rcases this with rfl|rfl|rfl|rfl<;>simp[World.cell?,h,Jy]
section
variable {P:Program}{ops:Array Oper}{Q:Exit->Act->qM->Prop}{md:Region.Mode}{S:qM->Prop}{n:Nat}
theorem Cq.two{i j:Nat}{oi oj:Oper}{f:Nat}{L:Array Bool}{a:Act}{w:qM}(hi:ops[i]? =some oi)(hj:ops[j]? =some oj)(hr:Region.ready md ops L=[i,j])
 (h1:∀K':Act->qM->Prop,Hid (∀a w,(i≠n->S w)->Cq P md ops Q S n f (L.setIfInBounds i true) a w->K' a w)->if jW oi (yielded ops a.tmps)=true then Oper.wp P oi a w K' Q else K' (a.put oi.dst undef) w)
 (h2:∀K':Act->qM->Prop,Hid (∀a w,(j≠n->S w)->Cq P md ops Q S n f (L.setIfInBounds j true) a w->K' a w)->if jW oj (yielded ops a.tmps)=true then Oper.wp P oj a w K' Q else K' (a.put oj.dst undef) w):Cq P md ops Q S n (f+1) L a w:=
 ⟨fun e=>absurd (hr.symm.trans e) sI,fun k hk=>by
   rw[hr]at hk;have:k=i∨k=j:=(by simpa using hk);rcases this with rfl|rfl
   ·exact wpOp_step hi (fun K' hK=>h1 K' (fun a w q1 q2=>hK a w ⟨q1,q2⟩))
   ·exact wpOp_step hj (fun K' hK=>h2 K' (fun a w q1 q2=>hK a w ⟨q1,q2⟩))⟩
end
open Go.Value renaming pointer→pT
open _root_.Or renaming inl→kz
theorem Jp(w0:World)(rb:Nat)(a:Option Addr)(n cap:Nat)(w:World)(h:Rd w0 w rb a n cap):
 Calls prog 56 #[pT rb] w fun e w'=>∃(base:Int) (l:List (Int×Int)) (va:Option Addr) (vc:Nat),e= .returned (.agg #[iT qH base,qV va l.length vc])/\l.length<=3/\Bo w' w (qV va l.length vc) l/\Rd w0 w' rb a n cap/\w.grownBy w' (some rb):=by
 have HR:Hid (Rd w0 w rb a n cap):=h;have lr:=h.lt;clear h;have n4:No (qG #[iT qH 0,qV none 0 0] 42):=⟨⟩;have K0:=(Below.refl _ w).alloc nr n4;have Y0:=Ag.new w n4;go_enter func56,ntmps56
 go_wp2_with fail
 refine(AF w0 rb a n cap 2 _ qQ (HR.out.below K0)).mono ?_;rintro e u1 ⟨x,rfl,_,x2,R1,g1⟩;have x2':=x2 qQ;have gw:w.grownBy u1 (some rb):=Cu (Cw (Bi w rb) (World.grownBy_alloc w _ none) (fun j e=>by cases e)) g1;have Y1:=Y0.grown g1 sO;have wx:IntKind.i64.wrap (1+(x:Int))=1+(x:Int):=by rw[IntKind.wrap_i64];omega
 have su:w.heap.size+1<=u1.heap.size:=by have:=g1.size;simpa using this
 have n7:No (qG #[iT qH (1+(x:Int)),qV none 0 0] 42):=⟨⟩;have L1:Tc w0 w (u1.alloc n7) rb a n cap u1 (1+(x:Int)) none 0 []:=
  ⟨Ag.new _ _,R1.below (Bg _ _),AO.nil _ _ _ _,JZ gw (Bg _ _)⟩
 have Y2:=Y1.alloc n7;have hz:rb<u1.heap.size:=by omega
 have hw:w.heap.size<=u1.heap.size:=by omega
 clear R1 g1 Y1 Y0 K0 gw HR x2;go_wp2_with fail
 refine(Eb w0 rb a n cap 4 _ qQ L1.r).mono ?_;rintro e u2 ⟨t,rfl,R2,g2⟩;have L2:=L1.call hz R2 g2;have Y3:=Y2.grown g2 sO;clear L1 R2 g2 Y2;generalize u1.heap.size=Z at *;go_upto_if 10 with fail
 go_cut[] (fun wc=>∃base:Int,Tc w0 w wc rb a n cap Z base none 0 []/\Ag wc w n4)
 case first=>
  cases t with
  |true=>
   go_wp2_with fail
   refine(AF w0 rb a n cap 4 _ qQ L2.r).mono ?_;rintro e u3 ⟨y,rfl,_,_,R3,g3⟩;have L3:=L2.call hz R3 g3;have Y4:=Y3.grown g3 sO;obtain⟨z1,z2⟩:=L3.z.two;have zf:=L3.z.jQ 0;go_wp2_with fail
   go_meet;case rel=>exact⟨_,L3.put0 hz hw _,(blk_setCell_other _ _ _ _ qJ).trans Y4⟩
  |false=>
   go_wp2_with fail
   go_meet;case rel=>exact⟨_,L2,Y3⟩
 case rest=>
  obtain⟨base,L4,Y4⟩:=hcut;clear L2 Y3;go_wp2_with fail
  refine(AF w0 rb a n cap 3 _ qQ L4.r).mono ?_;rintro e u4 ⟨m,rfl,_,m3,R5,g5⟩;have m3':=m3 qQ;have L5:=L4.call hz R5 g5;have Y5:=Y4.grown g5 sO;clear L4 R5 g5 Y4;go_wp2_with fail
  go_loopw [4] (fun i wr=>∃(k:Nat) (l:List (Int×Int)) (va:Option Addr) (vc:Nat),k<=2/\i= iT qH k/\l.length+k<=2/\Tc w0 w wr rb a n cap Z base va vc l/\Ag wr w (qG #[iT qH 0,qV none 0 0] 42)) (fun i _=>(intOf i).toNat)
  case atStart=>exact⟨m,[],none,0,by omega,rfl,by simp;omega,L5,Y5⟩
  case round=>
   obtain⟨k,l,va,vc,hk,rfl,hlk,L6,Y6⟩:=hrel;clear L5 Y5;by_cases hlt:0<k
   ·have hlt':(0:Int)<(k:Int):=qQ;have wk:IntKind.i64.wrap ((k:Int)-1)=(k:Int)-1:=(by rw[IntKind.wrap_i64];omega);have Sd:wr.drew.cell? ⟨Z,0,none⟩=some (iT qH base)/\wr.drew.cell? ⟨Z,1,none⟩=some (qV va l.length vc):=L6.z.two;have Ld:=L6.below (Below.refl _ wr).drew;have n5:No (qG #[iT qH 0,qV none 0 0] 42):=⟨⟩;have Yd:Ag wr.drew w n5:=Y6;obtain⟨z1,z2⟩:=L6.z.two;go_wp2_with fail
    refine Cq.region (fun w'=>w'.cell? ⟨Z,0,none⟩=some (iT qH base)/\w'.cell? ⟨Z,1,none⟩=some (qV va l.length vc)) 9 kR ?_;clear z1 z2;refine Cq.take (i:=0) (.agg #[iT qH base,qV va l.length vc]) rfl kR kR kR kR (fun _ _ _ h=>h) Sd (kz ⟨by rfl,fun w' h=>(by dsimp only at h;go_simp)⟩) ?_;simp only[Act.put,List.setIfInBounds_toArray];have n10:Nv (pT rb):=⟨⟩;refine Cq.take (i:=2) n10 rfl kR kR kR kR (fun _ _ _ h=>h) Sd (kz ⟨by rfl,fun w' h=>(by dsimp only at h;go_simp)⟩) ?_;simp only[Act.put];refine Cq.take (i:=6) n10 rfl kR kR kR kR (fun _ _ _ h=>h) Sd (kz ⟨by rfl,fun w' h=>(by dsimp only at h;go_simp)⟩) ?_;simp only[Act.put];refine Cq.two (i:=1) (j:=3) rfl rfl kR (fun K1 hK1=>?_) (fun K1 hK1=>?_)
    ·go_simp;have lq:Z<wr.heap.size:=L6.z.lt;have n1:No (qG #[iT qH 1001,iT qH 2001,iT qH 3001,iT qH 5] 2):=⟨⟩;have Kv1:Below wr wr (wr.alloc n1).drew:=((Below.refl _ wr).alloc nr n1).drew;have Lv1:=L6.below Kv1;have Yv1:=Y6.below Kv1;have Bv1:Ag (wr.alloc n1).drew wr n1:=Ag.new wr n1;generalize (wr.alloc n1).drew=v1 at *;generalize wr.heap.size=q at *;refine hK1 _ _ (fun _=>Lv1.z.two) ?_;clear hK1 K1 Kv1;refine Cq.one (i:=3) rfl kR (fun K1 hK1=>?_);go_simp;refine(AF w0 rb a n cap 4 _ qQ Lv1.r).mono ?_;rintro e v3 ⟨x5,rfl,_,x54,Rv3,gv3⟩;have x54':=x54 qQ;have x5i0:(0:Int)<=(x5:Int):=qQ;have x5i4:(x5:Int)<4:=qQ;have Lv3:=Lv1.call hz Rv3 gv3;have Yv3:=Yv1.grown gv3 sO;have Bv3:=Bv1.grown gv3 sO;refine hK1 _ _ (fun _=>Lv3.z.two) ?_;clear hK1 K1;refine Cq.take (i:=4) (pT (some ⟨q,x5,none⟩)) rfl kR kR kR kR (fun _ _ _ h=>h) Lv3.z.two (kz ⟨by rfl,fun w' h=>(by dsimp only at h;go_simp)⟩) ?_;simp only[Act.put];refine Cq.two (i:=5) (j:=7) rfl rfl kR (fun K1 hK1=>?_) (fun K1 hK1=>?_)
     ·have c5:=Jq Bv3 x54';go_simp;refine hK1 _ _ (fun _=>Lv3.z.two) ?_;clear hK1 K1 c5;refine Cq.one (i:=7) rfl kR (fun K1 hK1=>?_);go_simp;refine(AF w0 rb a n cap 4 _ qQ Lv3.r).mono ?_;rintro e v7 ⟨y,rfl,_,y4,Rv7,gv7⟩;have y4':=y4 qQ;have yi0:(0:Int)<=(y:Int):=qQ;have yi4:(y:Int)<4:=qQ;have Lv7:=Lv3.call hz Rv7 gv7;have Yv7:=Yv3.grown gv7 sO;have Bv7:=Bv3.grown gv7 sO;refine hK1 _ _ (fun _=>Lv7.z.two) ?_;clear hK1 K1;refine Cq.one (i:=8) rfl kR (fun K1 hK1=>?_);go_simp;refine(Gz base va l.length vc (Db l) (Dc l) (Jy x5) y _ qQ (AO.cats Lv7.o)).mono ?_;rintro e u9 ⟨ua,uc,rfl,uo,hb9⟩;have L9:=Lv7.below hb9;have Y9:=Yv7.below hb9;refine hK1 _ _ (fun _=>L9.z.two) ?_;clear hK1 K1;obtain⟨z6,z7⟩:=L9.z.two;have zf0:=L9.z.jQ 0;have zf1:=L9.z.jQ 1;refine Cq.one (i:=9) rfl kR (fun K1 hK1=>?_);go_simp;refine hK1 _ _ (fun h=>absurd rfl h) ?_;refine Cq.done kR ?_;have il:=Fi base l.length (Db l) (Dc l) (Jy x5) y;have LN:=L9.put hz hw (ownsRow_base_a uo Lv7.z.lt);have YN:Ag _ w n5:=(blk_setCell_other _ ⟨Z,1,none⟩ (qV ua (Fp base l.length (Db l) (Dc l) (Jy x5) y).length uc) w qJ).trans ((blk_setCell_other _ ⟨Z,0,none⟩ (iT qH base) w qJ).trans Y9);clear hK1 K1 z6 z7 zf0 zf1 uo hb9 L9 Y9;go_wp2;go_roundw;case rel=>exact⟨k-1,_,_,_,by omega,by go_num,by omega,LN,YN⟩
      case measure=>simp[intOf];omega
     ·go_simp;refine(AF w0 rb a n cap 4 _ qQ Lv3.r).mono ?_;rintro e v7 ⟨y,rfl,_,y4,Rv7,gv7⟩;have y4':=y4 qQ;have yi0:(0:Int)<=(y:Int):=qQ;have yi4:(y:Int)<4:=qQ;have Lv7:=Lv3.call hz Rv7 gv7;have Yv7:=Yv3.grown gv7 sO;have Bv7:=Bv3.grown gv7 sO;refine hK1 _ _ (fun _=>Lv7.z.two) ?_;clear hK1 K1;refine Cq.one (i:=5) rfl kR (fun K1 hK1=>?_);have c5:=Jq Bv7 x54';go_simp;refine hK1 _ _ (fun _=>Lv7.z.two) ?_;clear hK1 K1 c5;refine Cq.one (i:=8) rfl kR (fun K1 hK1=>?_);go_simp;refine(Gz base va l.length vc (Db l) (Dc l) (Jy x5) y _ qQ (AO.cats Lv7.o)).mono ?_;rintro e u9 ⟨ua,uc,rfl,uo,hb9⟩;have L9:=Lv7.below hb9;have Y9:=Yv7.below hb9;refine hK1 _ _ (fun _=>L9.z.two) ?_;clear hK1 K1;obtain⟨z6,z7⟩:=L9.z.two;have zf0:=L9.z.jQ 0;have zf1:=L9.z.jQ 1;refine Cq.one (i:=9) rfl kR (fun K1 hK1=>?_);go_simp;refine hK1 _ _ (fun h=>absurd rfl h) ?_;refine Cq.done kR ?_;have il:=Fi base l.length (Db l) (Dc l) (Jy x5) y;have LN:=L9.put hz hw (ownsRow_base_a uo Lv7.z.lt);have YN:Ag _ w n5:=(blk_setCell_other _ ⟨Z,1,none⟩ (qV ua (Fp base l.length (Db l) (Dc l) (Jy x5) y).length uc) w qJ).trans ((blk_setCell_other _ ⟨Z,0,none⟩ (iT qH base) w qJ).trans Y9);clear hK1 K1 z6 z7 zf0 zf1 uo hb9 L9 Y9;go_wp2;go_roundw;case rel=>exact⟨k-1,_,_,_,by omega,by go_num,by omega,LN,YN⟩
      case measure=>simp[intOf];omega
    ·go_simp;refine(AF w0 rb a n cap 4 _ qQ Ld.r).mono ?_;rintro e v3 ⟨x5,rfl,_,x54,Rv3,gv3⟩;have x54':=x54 qQ;have x5i0:(0:Int)<=(x5:Int):=qQ;have x5i4:(x5:Int)<4:=qQ;have Lv3:=Ld.call hz Rv3 gv3;have Yv3:=Yd.grown gv3 sO;refine hK1 _ _ (fun _=>Lv3.z.two) ?_;clear hK1 K1;refine Cq.two (i:=1) (j:=7) rfl rfl kR (fun K1 hK1=>?_) (fun K1 hK1=>?_)
     ·go_simp;have lq:Z<v3.heap.size:=Lv3.z.lt;have n2:No (qG #[iT qH 1001,iT qH 2001,iT qH 3001,iT qH 5] 2):=⟨⟩;have Kv1:Below v3 v3 (v3.alloc n2):=((Below.refl _ v3).alloc nr n2);have Lv1:=Lv3.below Kv1;have Yv1:=Yv3.below Kv1;have Bv1:Ag (v3.alloc n2) v3 n2:=Ag.new v3 n2;generalize (v3.alloc n2)=v1 at *;generalize v3.heap.size=q at *;refine hK1 _ _ (fun _=>Lv1.z.two) ?_;clear hK1 K1 Kv1;refine Cq.take (i:=4) (pT (some ⟨q,x5,none⟩)) rfl kR kR kR kR (fun _ _ _ h=>h) Lv1.z.two (kz ⟨by rfl,fun w' h=>(by dsimp only at h;go_simp)⟩) ?_;simp only[Act.put];refine Cq.two (i:=5) (j:=7) rfl rfl kR (fun K1 hK1=>?_) (fun K1 hK1=>?_)
      ·have c5:=Jq Bv1 x54';go_simp;refine hK1 _ _ (fun _=>Lv1.z.two) ?_;clear hK1 K1 c5;refine Cq.one (i:=7) rfl kR (fun K1 hK1=>?_);go_simp;refine(AF w0 rb a n cap 4 _ qQ Lv1.r).mono ?_;rintro e v7 ⟨y,rfl,_,y4,Rv7,gv7⟩;have y4':=y4 qQ;have yi0:(0:Int)<=(y:Int):=qQ;have yi4:(y:Int)<4:=qQ;have Lv7:=Lv1.call hz Rv7 gv7;have Yv7:=Yv1.grown gv7 sO;have Bv7:=Bv1.grown gv7 sO;refine hK1 _ _ (fun _=>Lv7.z.two) ?_;clear hK1 K1;refine Cq.one (i:=8) rfl kR (fun K1 hK1=>?_);go_simp;refine(Gz base va l.length vc (Db l) (Dc l) (Jy x5) y _ qQ (AO.cats Lv7.o)).mono ?_;rintro e u9 ⟨ua,uc,rfl,uo,hb9⟩;have L9:=Lv7.below hb9;have Y9:=Yv7.below hb9;refine hK1 _ _ (fun _=>L9.z.two) ?_;clear hK1 K1;obtain⟨z6,z7⟩:=L9.z.two;have zf0:=L9.z.jQ 0;have zf1:=L9.z.jQ 1;refine Cq.one (i:=9) rfl kR (fun K1 hK1=>?_);go_simp;refine hK1 _ _ (fun h=>absurd rfl h) ?_;refine Cq.done kR ?_;have il:=Fi base l.length (Db l) (Dc l) (Jy x5) y;have LN:=L9.put hz hw (ownsRow_base_a uo Lv7.z.lt);have YN:Ag _ w n5:=(blk_setCell_other _ ⟨Z,1,none⟩ (qV ua (Fp base l.length (Db l) (Dc l) (Jy x5) y).length uc) w qJ).trans ((blk_setCell_other _ ⟨Z,0,none⟩ (iT qH base) w qJ).trans Y9);clear hK1 K1 z6 z7 zf0 zf1 uo hb9 L9 Y9;go_wp2;go_roundw;case rel=>exact⟨k-1,_,_,_,by omega,by go_num,by omega,LN,YN⟩
       case measure=>simp[intOf];omega
      ·go_simp;refine(AF w0 rb a n cap 4 _ qQ Lv1.r).mono ?_;rintro e v7 ⟨y,rfl,_,y4,Rv7,gv7⟩;have y4':=y4 qQ;have yi0:(0:Int)<=(y:Int):=qQ;have yi4:(y:Int)<4:=qQ;have Lv7:=Lv1.call hz Rv7 gv7;have Yv7:=Yv1.grown gv7 sO;have Bv7:=Bv1.grown gv7 sO;refine hK1 _ _ (fun _=>Lv7.z.two) ?_;clear hK1 K1;refine Cq.one (i:=5) rfl kR (fun K1 hK1=>?_);have c5:=Jq Bv7 x54';go_simp;refine hK1 _ _ (fun _=>Lv7.z.two) ?_;clear hK1 K1 c5;refine Cq.one (i:=8) rfl kR (fun K1 hK1=>?_);go_simp;refine(Gz base va l.length vc (Db l) (Dc l) (Jy x5) y _ qQ (AO.cats Lv7.o)).mono ?_;rintro e u9 ⟨ua,uc,rfl,uo,hb9⟩;have L9:=Lv7.below hb9;have Y9:=Yv7.below hb9;refine hK1 _ _ (fun _=>L9.z.two) ?_;clear hK1 K1;obtain⟨z6,z7⟩:=L9.z.two;have zf0:=L9.z.jQ 0;have zf1:=L9.z.jQ 1;refine Cq.one (i:=9) rfl kR (fun K1 hK1=>?_);go_simp;refine hK1 _ _ (fun h=>absurd rfl h) ?_;refine Cq.done kR ?_;have il:=Fi base l.length (Db l) (Dc l) (Jy x5) y;have LN:=L9.put hz hw (ownsRow_base_a uo Lv7.z.lt);have YN:Ag _ w n5:=(blk_setCell_other _ ⟨Z,1,none⟩ (qV ua (Fp base l.length (Db l) (Dc l) (Jy x5) y).length uc) w qJ).trans ((blk_setCell_other _ ⟨Z,0,none⟩ (iT qH base) w qJ).trans Y9);clear hK1 K1 z6 z7 zf0 zf1 uo hb9 L9 Y9;go_wp2;go_roundw;case rel=>exact⟨k-1,_,_,_,by omega,by go_num,by omega,LN,YN⟩
       case measure=>simp[intOf];omega
     ·go_simp;refine(AF w0 rb a n cap 4 _ qQ Lv3.r).mono ?_;rintro e v7 ⟨y,rfl,_,y4,Rv7,gv7⟩;have y4':=y4 qQ;have yi0:(0:Int)<=(y:Int):=qQ;have yi4:(y:Int)<4:=qQ;have Lv7:=Lv3.call hz Rv7 gv7;have Yv7:=Yv3.grown gv7 sO;refine hK1 _ _ (fun _=>Lv7.z.two) ?_;clear hK1 K1;refine Cq.one (i:=1) rfl kR (fun K1 hK1=>?_);go_simp;have lq:Z<v7.heap.size:=Lv7.z.lt;have n3:No (qG #[iT qH 1001,iT qH 2001,iT qH 3001,iT qH 5] 2):=⟨⟩;have Kv1:Below v7 v7 (v7.alloc n3):=((Below.refl _ v7).alloc nr n3);have Lv1:=Lv7.below Kv1;have Yv1:=Yv7.below Kv1;have Bv1:Ag (v7.alloc n3) v7 n3:=Ag.new v7 n3;generalize (v7.alloc n3)=v1 at *;generalize v7.heap.size=q at *;refine hK1 _ _ (fun _=>Lv1.z.two) ?_;clear hK1 K1 Kv1;refine Cq.take (i:=4) (pT (some ⟨q,x5,none⟩)) rfl kR kR kR kR (fun _ _ _ h=>h) Lv1.z.two (kz ⟨by rfl,fun w' h=>(by dsimp only at h;go_simp)⟩) ?_;simp only[Act.put];refine Cq.one (i:=5) rfl kR (fun K1 hK1=>?_);have c5:=Jq Bv1 x54';go_simp;refine hK1 _ _ (fun _=>Lv1.z.two) ?_;clear hK1 K1 c5;refine Cq.one (i:=8) rfl kR (fun K1 hK1=>?_);go_simp;refine(Gz base va l.length vc (Db l) (Dc l) (Jy x5) y _ qQ (AO.cats Lv1.o)).mono ?_;rintro e u9 ⟨ua,uc,rfl,uo,hb9⟩;have L9:=Lv1.below hb9;have Y9:=Yv1.below hb9;refine hK1 _ _ (fun _=>L9.z.two) ?_;clear hK1 K1;obtain⟨z6,z7⟩:=L9.z.two;have zf0:=L9.z.jQ 0;have zf1:=L9.z.jQ 1;refine Cq.one (i:=9) rfl kR (fun K1 hK1=>?_);go_simp;refine hK1 _ _ (fun h=>absurd rfl h) ?_;refine Cq.done kR ?_;have il:=Fi base l.length (Db l) (Dc l) (Jy x5) y;have LN:=L9.put hz hw (ownsRow_base_a uo Lv1.z.lt);have YN:Ag _ w n5:=(blk_setCell_other _ ⟨Z,1,none⟩ (qV ua (Fp base l.length (Db l) (Dc l) (Jy x5) y).length uc) w qJ).trans ((blk_setCell_other _ ⟨Z,0,none⟩ (iT qH base) w qJ).trans Y9);clear hK1 K1 z6 z7 zf0 zf1 uo hb9 L9 Y9;go_wp2;go_roundw;case rel=>exact⟨k-1,_,_,_,by omega,by go_num,by omega,LN,YN⟩
      case measure=>simp[intOf];omega
   ·have hk0:k=0:=qQ;subst hk0;go_wp2_with fail
    refine(Eb w0 rb a n cap 30 _ qQ L6.r).mono ?_;rintro e u7 ⟨t7,rfl,R7,g7⟩;have L7:=L6.call hz R7 g7;have Y7:=Y6.grown g7 sO;have l3:l.length<=3:=qQ;clear L6 Y6 R7 g7;cases t7 with
    |false=>
     obtain⟨z1,z2⟩:=L7.z.two;obtain⟨y1,y2⟩:=Y7.two;have yf0:=Y7.jQ 0;have yf1:=Y7.jQ 1;have ne6:Z≠w.heap.size:=qQ;go_wp2;refine bodyPost_ret (v:= .agg #[iT qH base,qV va l.length vc]) (by simp[results,Tryz.results56,go_sem, *]) rfl ⟨base,l,va,vc,rfl,by omega,?_,?_,?_⟩
     ·exact ownsRow_base_a (Bo.set (Bo.set L7.o qQ _ _) qQ _ _) qQ
     ·exact(L7.r.set lr _ _).set lr _ _
     ·exact Ex (Ex L7.g nr _ _) nr _ _
    |true=>
     have Sd:u7.drew.cell? ⟨Z,0,none⟩=some (iT qH base)/\u7.drew.cell? ⟨Z,1,none⟩=some (qV va l.length vc):=L7.z.two;have Ld:=L7.below (Below.refl _ u7).drew;have n9:No (qG #[iT qH 0,qV none 0 0] 42):=⟨⟩;have Yd:Ag u7.drew w n9:=Y7;obtain⟨z1,z2⟩:=L7.z.two;go_wp2_with fail
     refine Cq.region (fun w'=>w'.cell? ⟨Z,0,none⟩=some (iT qH base)/\w'.cell? ⟨Z,1,none⟩=some (qV va l.length vc)) 8 kR ?_;clear z1 z2;have n11:Nv (pT (some ⟨Z,1,none⟩)):=⟨⟩;refine Cq.take (i:=0) n11 rfl kR kR kR kR (fun _ _ _ h=>h) Sd (kz ⟨by rfl,fun w' h=>(by dsimp only at h;go_simp)⟩) ?_;simp only[Act.put,List.setIfInBounds_toArray];refine Cq.take (i:=1) (qV va l.length vc) rfl kR kR kR kR (fun _ _ _ h=>h) Sd (kz ⟨by rfl,fun w' h=>(by dsimp only at h;go_simp)⟩) ?_;simp only[Act.put];refine Cq.take (i:=2) (pT rb) rfl kR kR kR kR (fun _ _ _ h=>h) Sd (kz ⟨by rfl,fun w' h=>(by dsimp only at h;go_simp)⟩) ?_;simp only[Act.put];refine Cq.one (i:=3) rfl kR (fun K1 hK1=>?_);go_simp;refine(bT w0 rb a n cap 1 9 _ qQ qQ Ld.r).mono ?_;rintro e v3 ⟨x5,rfl,Rv3,gv3⟩;have Lv3:=Ld.call hz Rv3 gv3;have Yv3:=Yd.grown gv3 sO;refine hK1 _ _ (fun _=>Lv3.z.two) ?_;clear hK1 K1;have n8:Na #[iT qH x5,iT qH 2]:=⟨⟩;refine Cq.take (i:=4) (.agg n8) rfl kR kR kR kR (fun _ _ _ h=>h) Lv3.z.two (kz ⟨by rfl,fun w' h=>(by dsimp only at h;go_simp)⟩) ?_;simp only[Act.put];refine Cq.one (i:=5) rfl kR (fun K1 hK1=>?_);go_simp;have Kb:=Bg v3 (qG n8 96);have Lv4:=Lv3.below Kb;have Yv4:=Yv3.below Kb;have C4:=N0 v3 x5 2;have b4:Z+1<=(v3.alloc (qG n8 96)).heap.size:=Lv4.z.lt;refine hK1 _ _ (fun _=>Lv4.z.two) ?_;clear hK1 K1;refine Cq.one (i:=6) rfl kR (fun K1 hK1=>?_);refine Fu _ rfl _ _ rfl (Z+1) _ _ (Db l) (Dc l) rfl Lv4.o _ 1 1 (fun _=>x5) (fun _=>2) rfl C4 qQ b4 ?_;intro a' c' v6 hown' hgrow' hat';obtain⟨Zv6,Rv6,gv6⟩:=Lv4.frame hz hw hgrow' (fun j e=>(qq.lt Lv4.o j e).1);have Yv6:=Yv4.grown hgrow' (fun e=>by have:=(qq.lt Lv4.o _ e.symm).1;omega);refine hK1 _ _ (fun _=>Zv6.two) ?_;clear hK1 K1;simp only[Act.put];refine Cq.take (i:=7) n11 rfl kR kR kR kR (fun _ _ _ h=>h) Zv6.two (kz ⟨by rfl,fun w' h=>(by dsimp only at h;go_simp)⟩) ?_;simp only[Act.put];obtain⟨z6,z7⟩:=Zv6.two;have zf1:=Zv6.jQ 1;have e1:l.length+1=(l++[(x5,2)]).length:=sI;have n6:Nv (qV a' (l++[(x5,2)]).length c'):=⟨⟩;have o':Bo v6 (Z+1) n6 (l++[(x5,2)]):=(by rw[<-e1];exact Bo.snoc hown');have LN:Tc w0 w (v6.setCell ⟨Z,1,none⟩ n6) rb a n cap Z base a' c' (l++[(x5,2)]):=⟨Zv6.set1 _,Rv6.set hz _ _,Bo.set o' qQ _ _,Ex gv6 hw _ _⟩;have YN:Ag (v6.setCell ⟨Z,1,none⟩ n6) w n9:=(blk_setCell_other _ _ _ _ qJ).trans Yv6;have HE1:Hid (l.length+1=(l++[(x5,2)]).length):=e1;clear e1;refine Cq.one (i:=8) rfl kR (fun K1 hK1=>?_);go_simp;refine hK1 _ _ (fun h=>absurd rfl h) ?_;refine Cq.done kR ?_;have e1:=HE1.out;clear HE1;rw[e1];have l4:(l++[(x5,2)]).length<=3:=(by rw[<-e1];omega);clear e1;generalize l++[(x5,2)]=l' at *;generalize v6.setCell ⟨Z,1,none⟩ (qV a' l'.length c')=WN at *;clear hK1 K1 z6 z7 zf1 hown' o' Zv6 Rv6 gv6 Yv6;obtain⟨z1,z2⟩:=LN.z.two;obtain⟨y1,y2⟩:=YN.two;have yf0:=YN.jQ 0;have yf1:=YN.jQ 1;have ne6:Z≠w.heap.size:=qQ;go_wp2;refine bodyPost_ret (v:= .agg #[iT qH base,qV a' l'.length c']) (by simp[results,Tryz.results56,go_sem, *]) rfl ⟨base,l',a',c',rfl,by omega,?_,?_,?_⟩
     ·exact ownsRow_base_a (Bo.set (Bo.set LN.o qQ _ _) qQ _ _) qQ
     ·exact(LN.r.set lr _ _).set lr _ _
     ·exact Ex (Ex LN.g nr _ _) nr _ _
end Go.Proofs.YtdaccbddcjlkpaaGreatDoor
