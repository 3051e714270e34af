import Derived.Test.YtbacmamplkdgaaaGreatDoorNE3b
import Derived.Test.YtbacmamplkdgaaaGreatDoorKB10b
import Derived.Test.YtbacmamplkdgaaaGreatDoorZ3b
import Derived.Test.YtbacmamplkdgaaaGreatDoorZ1b
import Derived.Test.YtbacmamplkdgaaaGreatDoorZ5b
import Derived.Maps.OwnOps
import Derived.Test.YtbacmamplkdgaaaGreatDoorZ9b
import Derived.Deep.RegionLaw
import Derived.BigRegion
import Derived.Deep.DeepCutAuto
import Derived.Deep.RegionHeld
import Derived.Maps.Own
set_option maxRecDepth 100000
set_option maxHeartbeats 16000000
namespace Go.Proofs.YtbacmamplkdgaaaGreatDoor
open Go Go.RowKit Go.Deep Go.Maps Go.BigFrame Go.Shelf
theorem ker_id{k:KerV}(ok:kerOk k=true):∀i,i<k.on→0≤(k.O i).id∧(k.O i).id≤1000000:=fun i hi=>by
 have h:=kerOk_iff.1 ok;by_cases h0:i=0
 ·subst h0;have r:=h.root;unfold rootB at r;simp only[Bool.and_eq_true,beq_iff_eq]at r;omega
 ·obtain⟨t,h1,h2,h3,h4⟩:=numAt_parts h.thr (h.num i (by omega) hi);have f:=(thrsOk_out h.thr).2.2 t h1;unfold thrAt at f;simp only[Bool.and_eq_true]at f;have g:=thrF_iff.1 f.1;have:=g.id;have:=g.made;omega
theorem wf_small{x:Int}(h:0≤x∧x≤1000000):(Lit.int .i64 x).wf=true:=by
 have e1:IntKind.i64.min= -9223372036854775808:=by decide
 have e2:IntKind.i64.max=9223372036854775807:=by decide
 simp[Lit.wf,e1,e2];omega
theorem specDone_ok(k:KerV)(w:World)(hk:k.at w)(ok:kerOk k=true)(s:StepV)(hs:s.at w):
 Calls Tryz.prog 89 #[.agg #[.slice k.ta k.tn k.tk,.slice k.oa k.on k.ok],.agg #[.int .i64 s.th,.int .i64 s.kind,.int .i64 s.id,.int .i64 s.to,.int .i64 s.cat,.string s.data,.int .i64 s.b1,.slice s.c1.a s.c1.n s.c1.k,.int .i64 s.b2,.slice s.c2.a s.c2.n s.c2.k]] w fun e w'=>∃(lt:List ThrV) (lo:List ObjV) (lt':List ThrV) (lo':List ObjV) (ta:Option Addr) (ca:Nat) (oa:Option Addr) (co:Nat) (c:Int) (tx:ByteArray),e= .returned (.tuple #[.agg #[.slice ta lt'.length ca,.slice oa lo'.length co],.int .i64 c,.string tx])∧KSt w' w.heap.size (.slice ta lt'.length ca) (.slice oa lo'.length co) lt' lo'∧Below w.heap.size w w'∧k.same (kOf none 0 none 0 lt lo)∧DoneP lt lo s c tx lt' lo':=by
 have b0:Below w.heap.size w (((w.alloc (.cells #[.slice k.ta k.tn k.tk,.slice k.oa k.on k.ok] 27)).alloc (.cells #[.int .i64 s.th,.int .i64 s.kind,.int .i64 s.id,.int .i64 s.to,.int .i64 s.cat,.string s.data,.int .i64 s.b1,.slice s.c1.a s.c1.n s.c1.k,.int .i64 s.b2,.slice s.c2.a s.c2.n s.c2.k] 46)).alloc (.cells #[.slice none 0 0,.slice none 0 0] 27)):=(((Below.refl _ w).alloc (Nat.le_refl _) _).alloc (by simp) _).alloc (by simp;omega) _;have A0:Blk (((w.alloc (.cells #[.slice k.ta k.tn k.tk,.slice k.oa k.on k.ok] 27)).alloc (.cells #[.int .i64 s.th,.int .i64 s.kind,.int .i64 s.id,.int .i64 s.to,.int .i64 s.cat,.string s.data,.int .i64 s.b1,.slice s.c1.a s.c1.n s.c1.k,.int .i64 s.b2,.slice s.c2.a s.c2.n s.c2.k] 46)).alloc (.cells #[.slice none 0 0,.slice none 0 0] 27)) w.heap.size (.cells #[.slice k.ta k.tn k.tk,.slice k.oa k.on k.ok] 27):=((Blk.new w _).alloc _).alloc _;have P0:Blk (((w.alloc (.cells #[.slice k.ta k.tn k.tk,.slice k.oa k.on k.ok] 27)).alloc (.cells #[.int .i64 s.th,.int .i64 s.kind,.int .i64 s.id,.int .i64 s.to,.int .i64 s.cat,.string s.data,.int .i64 s.b1,.slice s.c1.a s.c1.n s.c1.k,.int .i64 s.b2,.slice s.c2.a s.c2.n s.c2.k] 46)).alloc (.cells #[.slice none 0 0,.slice none 0 0] 27)) (w.heap.size+1) (.cells #[.int .i64 s.th,.int .i64 s.kind,.int .i64 s.id,.int .i64 s.to,.int .i64 s.cat,.string s.data,.int .i64 s.b1,.slice s.c1.a s.c1.n s.c1.k,.int .i64 s.b2,.slice s.c2.a s.c2.n s.c2.k] 46):=by have:=(Blk.new (w.alloc (.cells #[.slice k.ta k.tn k.tk,.slice k.oa k.on k.ok] 27)) (.cells #[.int .i64 s.th,.int .i64 s.kind,.int .i64 s.id,.int .i64 s.to,.int .i64 s.cat,.string s.data,.int .i64 s.b1,.slice s.c1.a s.c1.n s.c1.k,.int .i64 s.b2,.slice s.c2.a s.c2.n s.c2.k] 46)).alloc (.cells #[.slice none 0 0,.slice none 0 0] 27);simpa using this
 have R0:Blk (((w.alloc (.cells #[.slice k.ta k.tn k.tk,.slice k.oa k.on k.ok] 27)).alloc (.cells #[.int .i64 s.th,.int .i64 s.kind,.int .i64 s.id,.int .i64 s.to,.int .i64 s.cat,.string s.data,.int .i64 s.b1,.slice s.c1.a s.c1.n s.c1.k,.int .i64 s.b2,.slice s.c2.a s.c2.n s.c2.k] 46)).alloc (.cells #[.slice none 0 0,.slice none 0 0] 27)) (w.heap.size+1+1) (.cells #[.slice none 0 0,.slice none 0 0] 27):=by have:=Blk.new ((w.alloc (.cells #[.slice k.ta k.tn k.tk,.slice k.oa k.on k.ok] 27)).alloc (.cells #[.int .i64 s.th,.int .i64 s.kind,.int .i64 s.id,.int .i64 s.to,.int .i64 s.cat,.string s.data,.int .i64 s.b1,.slice s.c1.a s.c1.n s.c1.k,.int .i64 s.b2,.slice s.c2.a s.c2.n s.c2.k] 46)) (.cells #[.slice none 0 0,.slice none 0 0] 27);simpa using this
 have HK:=hid hk;have OK:=hid ok;have SA:=hid hs;have HB:=hid b0;have HA:=hid A0;have HP:=hid P0;have HR:=hid R0;clear b0 A0 P0 R0 hk ok hs;go_enter Tryz.func89,Tryz.ntmps89
 obtain⟨x0,x1⟩:=HA.out.two;obtain⟨s0,s1,s2,s3,s4,s5,s6,s7,s8,s9⟩:=HP.out.ten;go_wp2_with fail
 clear x0 x1 s0 s1 s2 s3 s4 s5 s6 s7 s8 s9;have S0:=hid HB.out.size;generalize (((w.alloc (.cells #[.slice k.ta k.tn k.tk,.slice k.oa k.on k.ok] 27)).alloc (.cells #[.int .i64 s.th,.int .i64 s.kind,.int .i64 s.id,.int .i64 s.to,.int .i64 s.cat,.string s.data,.int .i64 s.b1,.slice s.c1.a s.c1.n s.c1.k,.int .i64 s.b2,.slice s.c2.a s.c2.n s.c2.k] 46)).alloc (.cells #[.slice none 0 0,.slice none 0 0] 27))=V at *;have C1:Hid (Calls Tryz.prog 14 #[.agg #[.slice k.ta k.tn k.tk,.slice k.oa k.on k.ok]] V fun e w'=>e= .returned (.bool true)∧Below V.heap.size V w'):=hid (by
  have h:=specKer_any k V (HK.out.below HB.out) (fun i hi=>wf_small (ker_id OK.out i hi));rw[OK.out]at h;exact h)
 refine C1.out.mono ?_;rintro e w1 ⟨rfl,hb1⟩;have B1:=hid hb1;have L1:=hid (then_ HB.out hb1);clear hb1;obtain⟨x0,x1⟩:=(HA.out.below B1.out).two;obtain⟨s0,s1,s2,s3,s4,s5,s6,s7,s8,s9⟩:=(HP.out.below B1.out).ten;go_wp2_with fail
 refine(l4Done_any k w1 (HK.out.below L1.out) OK.out s (SA.out.below L1.out)).mono ?_;rintro e w2 ⟨lt,lo,lt',lo',ta,ca,oa,co,c,tx,rfl,k2,b2,sm,dp⟩;have K2:=hid (k2.base L1.out.size);have L2:=hid (then_ L1.out b2);have SM:=hid sm;have DP:=hid dp;have RB:=hid ((HR.out.below B1.out).below b2);clear k2 b2 sm dp x0 x1 s0 s1 s2 s3 s4 s5 s6 s7 s8 s9;obtain⟨r0,r1⟩:=RB.out.two;have rf:=RB.out.warm;go_wp2;refine bodyPost_ret (self_results _ _ (w.heap.size+1+1) 4 _ _ _ _ Tryz.results89 ((RB.out.setAt (i:=0) _).setAt (i:=1) _) rfl rfl rfl) rfl ⟨lt,lo,lt',lo',ta,ca,oa,co,c,tx,rfl,?_,?_,SM.out,DP.out⟩
 ·exact(K2.out.set RB.out (.inl rfl) _).set (RB.out.setAt (i:=0) _) (.inl rfl) _
 ·exact(L2.out.setCell (by dsimp only;omega) _).setCell (by dsimp only;omega) _
theorem grown_trans{a b c:World}{P:Nat}{row:Option Nat}(h:a.grownBy b (some P))(k:b.grownBy c row)(hr:∀j,row=some j→a.heap.size≤j):a.grownBy c (some P):=
 ⟨k.os.trans h.os,k.tape.trans h.tape,k.output.trans h.output,Nat.le_trans h.size k.size,fun j hj hne=>(k.block j (Nat.lt_of_lt_of_le hj h.size) (fun e=>by have:=hr j e.symm;omega)).trans (h.block j hj hne)⟩
theorem Blk.set1{W:World}{P t:Nat}{x y:Value}(h:Blk W P (.cells #[x,y] t))(v:Value):Blk (W.setCell ⟨P,1,none⟩ v) P (.cells #[x,v] t):=by
 unfold Blk at *;simp[World.setCell,Array.getElem?_modify,h]
theorem Blk.frozen2{W:World}{P t:Nat}{x y:Value}(h:Blk W P (.cells #[x,y] t))(i:Nat):W.frozen? ⟨P,i,none⟩=false:=by
 unfold Blk at h;simp[World.frozen?,h]
theorem OwnCats.alloc{w:World}{B n:Nat}{v:Value}{f g:Nat→Int}(h:OwnCats w B v n f g)(o:Obj):OwnCats (w.alloc o) B v n f g:=World.ownsRow.alloc h o
theorem one_cat(w:World)(x y:Int):CatsAt (w.alloc (.cells #[.int .i64 x,.int .i64 y] 88)) (some ⟨w.heap.size,0,none⟩) 1 (fun _=>x) (fun _=>y):=fun _=>by
 obtain⟨h1,h2⟩:=Blk.two (Blk.new w (.cells #[.int .i64 x,.int .i64 y] 88));refine⟨w.heap.size,0,rfl,by simp,fun i hi=>?_⟩;obtain rfl:i=0:=by omega
 exact⟨h1,h2⟩
def fstAt(l:List (Int×Int))(i:Nat):Int:=(l.getD i (0,0)).1
def sndAt(l:List (Int×Int))(i:Nat):Int:=(l.getD i (0,0)).2
theorem fstAt_snoc_lt{l:List (Int×Int)}{p:Int×Int}{i:Nat}(h:i<l.length):fstAt (l++[p]) i=fstAt l i:=by
 simp[fstAt,List.getElem?_append_left h]
theorem sndAt_snoc_lt{l:List (Int×Int)}{p:Int×Int}{i:Nat}(h:i<l.length):sndAt (l++[p]) i=sndAt l i:=by
 simp[sndAt,List.getElem?_append_left h]
theorem fstAt_snoc_eq(l:List (Int×Int))(p:Int×Int):fstAt (l++[p]) l.length=p.1:=by simp[fstAt]
theorem sndAt_snoc_eq(l:List (Int×Int))(p:Int×Int):sndAt (l++[p]) l.length=p.2:=by simp[sndAt]
theorem catCells_congr{f g f' g':Nat→Int}{n:Nat}(hf:∀i,i<n→f i=f' i)(hg:∀i,i<n→g i=g' i):catCells f g n=catCells f' g' n:=by
 unfold catCells;apply List.map_congr_left;intro j hj;have hj':j<n*2:=List.mem_range.1 hj;have:j/2<n:=by omega
 unfold pairCell;rw[hf _ this,hg _ this]
theorem OwnCats.congr{w:World}{B n:Nat}{v:Value}{f g f' g':Nat→Int}(h:OwnCats w B v n f g)(hf:∀i,i<n→f i=f' i)(hg:∀i,i<n→g i=g' i):OwnCats w B v n f' g':=by
 unfold OwnCats at *;rw[←catCells_congr hf hg];exact h
def OwnList(w:World)(B:Nat)(v:Value)(l:List (Int×Int)):Prop:=OwnCats w B v l.length (fstAt l) (sndAt l)
theorem OwnList.snoc{w:World}{B:Nat}{v:Value}{l:List (Int×Int)}{x y:Int}(h:OwnCats w B v (l.length+1) (glue l.length (fstAt l) (fun _=>x)) (glue l.length (sndAt l) (fun _=>y))):OwnList w B v (l++[(x,y)]):=by
 unfold OwnList;rw[List.length_append];refine h.congr (fun i hi=>?_) (fun i hi=>?_)
 ·by_cases e:i<l.length
  ·simp only[glue,e,if_true];rw[fstAt_snoc_lt e]
  ·obtain rfl:i=l.length:=by have hi':i<l.length+1:=hi;omega
   rw[fstAt_snoc_eq];simp[glue]
 ·by_cases e:i<l.length
  ·simp only[glue,e,if_true];rw[sndAt_snoc_lt e]
  ·obtain rfl:i=l.length:=by have hi':i<l.length+1:=hi;omega
   rw[sndAt_snoc_eq];simp[glue]
theorem OwnList.below{w w':World}{B:Nat}{v:Value}{l:List (Int×Int)}(h:OwnList w B v l)(hb:Below w.heap.size w w'):OwnList w' B v l:=by
 refine⟨h.1,?_⟩;rcases h.2 with hn|⟨g,cap,cur,hv,hbg,hg,rest⟩
 ·exact .inl hn
 ·exact .inr ⟨g,cap,cur,hv,hbg,(hb.block g (Array.getElem?_eq_some_iff.1 hg).1).trans hg,rest⟩
theorem OwnList.set{w:World}{B:Nat}{v:Value}{l:List (Int×Int)}(h:OwnList w B v l){P:Nat}(hP:P<B)(i:Nat)(x:Value):OwnList (w.setCell ⟨P,i,none⟩ x) B v l:=
 World.ownsRow.kept h (grown_set (grown_refl w P) i x) (Or.inr (fun e=>by have:=(World.ownsRow.lt h _ e).1;omega))
theorem OwnList.low{w:World}{B B':Nat}{v:Value}{l:List (Int×Int)}(h:OwnList w B v l)(hB:B'≤B):OwnList w B' v l:=by
 refine⟨h.1,?_⟩;rcases h.2 with hn|⟨g,cap,cur,hv,hb,rest⟩
 ·exact .inl hn
 ·exact .inr ⟨g,cap,cur,hv,by omega,rest⟩
theorem ownsRow_base_a{w:World}{B B' e size n:Nat}{v:Value}{cs:List Value}(h:w.ownsRow B e size v n cs)(hB:B'≤B):w.ownsRow B' e size v n cs:=by
 refine⟨h.1,?_⟩;rcases h.2 with hn|⟨g,cap,cur,hv,hbg,rest⟩
 ·exact .inl hn
 ·exact .inr ⟨g,cap,cur,hv,Nat.le_trans hB hbg,rest⟩
theorem grown_below{a b c:World}{P:Nat}(h:a.grownBy b (some P))(k:Below b.heap.size b c):a.grownBy c (some P):=
 ⟨k.os.trans h.os,k.tape.trans h.tape,k.output.trans h.output,Nat.le_trans h.size k.size,fun j hj hne=>(k.block j (Nat.lt_of_lt_of_le hj h.size)).trans (h.block j hj hne)⟩
theorem Blk.set0{W:World}{P t:Nat}{x y:Value}(h:Blk W P (.cells #[x,y] t))(v:Value):Blk (W.setCell ⟨P,0,none⟩ v) P (.cells #[v,y] t):=by
 unfold Blk at *;simp[World.setCell,Array.getElem?_modify,h]
def insTo(base:Int)(f g:Nat→Int)(cat level:Int):Nat→List (Int×Int)×Bool
 |0=>([],level==base)
 |k+1=>
  let r:=insTo base f g cat level k
  let q:=if !r.2&&decide (cat≤f k)then(r.1++[(cat,level)],true)else r
  (if f k=cat then q.1 else q.1++[(f k,g k)],q.2)
def insFin(base:Int)(n:Nat)(f g:Nat→Int)(cat level:Int):List (Int×Int):=
 let r:=insTo base f g cat level n
 if r.2 then r.1 else r.1++[(cat,level)]
theorem insTo_len(base:Int)(f g:Nat→Int)(cat level:Int)(k:Nat):(insTo base f g cat level k).1.length≤2*k:=by
 induction k with
 |zero=>simp[insTo]
 |succ k ih=>
  simp only[insTo];split<;>split<;>(try simp only[List.length_append,List.length_singleton])<;>omega
def putQ(l:List (Int×Int))(d:Bool)(cat level x:Int):List (Int×Int)×Bool:=if !d&&decide (cat≤x)then(l++[(cat,level)],true)else(l,d)
theorem insTo_succ{base:Int}{f g:Nat→Int}{cat level:Int}{k:Nat}{l:List (Int×Int)}{d:Bool}(h:insTo base f g cat level k=(l,d)):
 insTo base f g cat level (k+1)=(if f k=cat then(putQ l d cat level (f k)).1 else(putQ l d cat level (f k)).1++[(f k,g k)],(putQ l d cat level (f k)).2):=by
 simp only[insTo,h,putQ]
theorem putQ_len(l:List (Int×Int))(d:Bool)(cat level x:Int):(putQ l d cat level x).1.length≤l.length+1:=by
 unfold putQ;split<;>simp
theorem l1With_any(base:Int)(a:Option Addr)(n cap:Nat)(f g:Nat→Int)(cat level:Int)(w:World)(hn:n≤1048576)(hc:CatsAt w a n f g):
 Calls Tryz.prog 70 #[.agg #[.int .i64 base,.slice a n cap],.int .i64 cat,.int .i64 level] w fun e w'=>∃va vc,e= .returned (.agg #[.int .i64 base,.slice va (insFin base n f g cat level).length vc])∧
  OwnList w' w.heap.size (.slice va (insFin base n f g cat level).length vc) (insFin base n f g cat level)∧Below w.heap.size w w':=by
 have hb0:=(((Below.refl _ w).alloc (Nat.le_refl _) (.cells #[.int .i64 base,.slice a n cap] 30)).alloc (by simp) (.cells #[.int .i64 0,.slice none 0 0] 30)).alloc (by simp;omega) (.cells #[.int .i64 base,.slice none 0 0] 30);have X0:Blk (((w.alloc (.cells #[.int .i64 base,.slice a n cap] 30)).alloc (.cells #[.int .i64 0,.slice none 0 0] 30)).alloc (.cells #[.int .i64 base,.slice none 0 0] 30)) w.heap.size (.cells #[.int .i64 base,.slice a n cap] 30):=((Blk.new w _).alloc _).alloc _;have Y0:Blk (((w.alloc (.cells #[.int .i64 base,.slice a n cap] 30)).alloc (.cells #[.int .i64 0,.slice none 0 0] 30)).alloc (.cells #[.int .i64 base,.slice none 0 0] 30)) (w.heap.size+1) (.cells #[.int .i64 0,.slice none 0 0] 30):=by
  have:=(Blk.new (w.alloc (.cells #[.int .i64 base,.slice a n cap] 30)) (.cells #[.int .i64 0,.slice none 0 0] 30)).alloc (.cells #[.int .i64 base,.slice none 0 0] 30);simpa using this
 have Z0:Blk (((w.alloc (.cells #[.int .i64 base,.slice a n cap] 30)).alloc (.cells #[.int .i64 0,.slice none 0 0] 30)).alloc (.cells #[.int .i64 base,.slice none 0 0] 30)) (w.heap.size+1+1) (.cells #[.int .i64 base,.slice none 0 0] 30):=by
  have:=Blk.new ((w.alloc (.cells #[.int .i64 base,.slice a n cap] 30)).alloc (.cells #[.int .i64 0,.slice none 0 0] 30)) (.cells #[.int .i64 base,.slice none 0 0] 30);simpa using this
 go_enter Tryz.func70,Tryz.ntmps70
 go_wp2;obtain⟨w4,hW0⟩:∃w4,(((w.alloc (.cells #[.int .i64 base,.slice a n cap] 30)).alloc (.cells #[.int .i64 0,.slice none 0 0] 30)).alloc (.cells #[.int .i64 base,.slice none 0 0] 30))=w4:=⟨_,rfl⟩;rw[hW0]at hb0 X0 Y0 Z0 ⊢;clear hW0;go_loopw [8,9] (fun d i wr=>∃(k:Nat) (v:Value),k≤n∧i= .int .i64 k∧d= .bool (insTo base f g cat level k).2∧Blk wr (w.heap.size+1+1) (.cells #[.int .i64 base,v] 30)∧OwnList wr w4.heap.size v (insTo base f g cat level k).1∧w4.grownBy wr (some (w.heap.size+1+1))) (fun _ i _=>n-(intOf i).toNat)
 case atStart=>exact⟨0,_,Nat.zero_le _,rfl,rfl,Z0,OwnCats.nil _ _ _ _,grown_refl _ _⟩
 case round=>
  obtain⟨k,v,hk,rfl,rfl,hZ,hO,hg⟩:=hrel;have lz:=Z0.lt;have r1:wr.cell? ⟨w.heap.size,0,none⟩=some (.int .i64 base):=(grown_cell hg X0.lt (by omega)).trans X0.two.1;have r2:wr.cell? ⟨w.heap.size,1,none⟩=some (.slice a n cap):=(grown_cell hg X0.lt (by omega)).trans X0.two.2;obtain⟨r3,r4⟩:=hZ.two;have hf1:=hZ.frozen2 1;have lens:=insTo_len base f g cat level k;have hw4:=hg.size;by_cases hlt':k<n
  ·obtain⟨b,off,rfl,hlt,hcc⟩:=hc (by omega);have hbl:b<w4.heap.size:=Nat.lt_of_lt_of_le hlt hb0.size;have g1:wr.cell? ⟨b,off+k*2,none⟩=some (.int .i64 (f k)):=(grown_cell hg hbl (by omega)).trans ((hb0.cell (p:=⟨b,_,none⟩) hlt).trans (hcc k hlt').1);have g2:wr.cell? ⟨b,off+k*2+1,none⟩=some (.int .i64 (g k)):=(grown_cell hg hbl (by omega)).trans ((hb0.cell (p:=⟨b,_,none⟩) hlt).trans (hcc k hlt').2);have HC1:Hid (w4.cell? ⟨b,off+k*2,none⟩=some (.int .i64 (f k))):=(hb0.cell (p:=⟨b,_,none⟩) hlt).trans (hcc k hlt').1;have HC2:Hid (w4.cell? ⟨b,off+k*2+1,none⟩=some (.int .i64 (g k))):=(hb0.cell (p:=⟨b,_,none⟩) hlt).trans (hcc k hlt').2;have i0:(0:Int)≤(k:Int):=(by omega);have i1:(k:Int)<(n:Int):=(by omega);generalize hR:insTo base f g cat level k=r at *;obtain⟨l,d⟩:=r;dsimp only at hO lens ⊢;have HO:Hid (OwnList wr w4.heap.size v l):=hO;have HR:Hid (insTo base f g cat level k=(l,d)):=hR;have zz:w.heap.size+1+1<wr.heap.size:=hZ.lt;have HNE:Hid (some (w.heap.size+1+1)≠v.ownBlock):=fun e=>by have:=(World.ownsRow.lt HO.out _ e.symm).1;omega
   clear hcc hO hR;obtain⟨tb,htb⟩:∃tb,tb=(!d&&decide (cat≤f k)):=⟨_,rfl⟩;have HTB:Hid (tb=(!d&&decide (cat≤f k))):=htb;clear htb;go_upto_region 6 with fail
   go_cut[35] (fun t wc=>t= .bool tb∧wc=wr)
   case first=>
    cases d with
    |true=>
     go_wp2_with fail
     go_meet;case rel=>exact⟨by rw[HTB.out];rfl,rfl⟩
    |false=>
     go_wp2_with fail
     go_meet;case rel=>exact⟨by rw[HTB.out];rfl,rfl⟩
   case rest=>
    obtain⟨rfl,rfl⟩:=hcut;go_upto_if 35 with fail
    go_cut[8] (fun dd wc=>∃v1:Value,dd= .bool (putQ l d cat level (f k)).2∧Blk wc (w.heap.size+1+1) (.cells #[.int .i64 base,v1] 30)∧OwnList wc w4.heap.size v1 (putQ l d cat level (f k)).1∧w4.grownBy wc (some (w.heap.size+1+1)))
    case first=>
     cases tb with
     |true=>
      have HP:Hid (putQ l d cat level (f k)=(l++[(cat,level)],true)):=by
       show _=_;unfold putQ;rw[if_pos HTB.out.symm]
      go_wp2_with(at_builtin;refine wpList_append_cats _ rfl _ _ rfl w4.heap.size _ _ _ _ rfl (OwnCats.alloc HO.out _) _ 1 1 (fun _=>cat) (fun _=>level) rfl (one_cat _ _ _) (by omega) (by simp;omega) ?_;intro a' c' w' hown' hgrow' hat';have hZ':=(hZ.alloc (.cells #[.int .i64 cat,.int .i64 level] 88)).grown hgrow' (HNE.out);obtain⟨p1,p2⟩:=hZ'.two;have pf:=hZ'.frozen2 1)
      go_meet;case rel=>
       have hgN:w4.grownBy w' (some (w.heap.size+1+1)):=grown_trans (grown_trans hg (World.grownBy_alloc _ _ none) (fun j e=>by cases e)) hgrow' (fun j e=>(World.ownsRow.lt HO.out j e).1);refine⟨_,by rw[HP.out],hZ'.set1 _,?_,grown_set hgN _ _⟩;rw[HP.out];have hs:=OwnList.snoc hown';exact World.ownsRow.kept hs (grown_set (grown_refl w' _) _ _) (Or.inr (fun e=>by have:=(World.ownsRow.lt hs _ e).1;omega))
     |false=>
      have HP:Hid (putQ l d cat level (f k)=(l,d)):=by
       show _=_;unfold putQ;rw[if_neg (by rw[←HTB.out];simp)]
      go_wp2_with fail
      go_meet;case rel=>exact⟨v,by rw[HP.out],hZ,by rw[HP.out];exact HO.out,hg⟩
    case rest=>
     obtain⟨v1,rfl,hZ1,hO1,hg1⟩:=hcut;have y1:wc.cell? ⟨w.heap.size,0,none⟩=some (.int .i64 base):=(grown_cell hg1 X0.lt (by omega)).trans X0.two.1;have y2:wc.cell? ⟨w.heap.size,1,none⟩=some (.slice (some ⟨b,off,none⟩) n cap):=(grown_cell hg1 X0.lt (by omega)).trans X0.two.2;obtain⟨y3,y4⟩:=hZ1.two;have yf:=hZ1.frozen2 1;have e1:wc.cell? ⟨b,off+k*2,none⟩=some (.int .i64 (f k)):=(grown_cell hg1 hbl (by omega)).trans HC1.out;have e2:wc.cell? ⟨b,off+k*2+1,none⟩=some (.int .i64 (g k)):=(grown_cell hg1 hbl (by omega)).trans HC2.out;have hs1:=hg1.size;have lenq:=putQ_len l d cat level (f k);have HO1:Hid (OwnList wc w4.heap.size v1 (putQ l d cat level (f k)).1):=hO1;have HR1:Hid (insTo base f g cat level (k+1)=(if f k=cat then(putQ l d cat level (f k)).1 else(putQ l d cat level (f k)).1++[(f k,g k)],(putQ l d cat level (f k)).2)):=insTo_succ HR.out;generalize putQ l d cat level (f k)=q at *;obtain⟨l1,d1⟩:=q;dsimp only at lenq ⊢;clear g1 g2 r1 r2 r3 r4 hf1 hZ hg HTB HNE HO hO1 HR;by_cases t:f k=cat
     ·have t':(f k != cat)=false:=(by simpa using t);have HT:Hid (f k=cat):=t;clear t;go_wp2;go_roundw;case rel=>
       exact⟨k+1,v1,by omega,by go_num,by rw[HR1.out],hZ1,by rw[HR1.out,if_pos HT.out];exact HO1.out,hg1⟩
      case measure=>simp[intOf];omega
     ·have t':(f k != cat)=true:=(by simpa using t);have HT:Hid (¬f k=cat):=t;have HOa:OwnCats ((wc.alloc (.cells #[.int .i64 (f k),.int .i64 (g k)] 88)).drew) w4.heap.size v1 l1.length (fstAt l1) (sndAt l1):=OwnCats.alloc HO1.out _;have HOC:CatsAt ((wc.alloc (.cells #[.int .i64 (f k),.int .i64 (g k)] 88)).drew) (some ⟨wc.heap.size,0,none⟩) 1 (fun _=>f k) (fun _=>g k):=(one_cat wc (f k) (g k)).below (Below.refl _ _).drew;have hbs:w4.heap.size≤((wc.alloc (.cells #[.int .i64 (f k),.int .i64 (g k)] 88)).drew).heap.size:=(by show w4.heap.size≤(wc.alloc _).heap.size;simp;omega);have HNE:Hid (some (w.heap.size+1+1)≠v1.ownBlock):=fun e=>by have:=(World.ownsRow.lt HO1.out _ e.symm).1;omega
      have zz:w.heap.size+1+1<wc.heap.size:=hZ1.lt;have zb:b<wc.heap.size:=(by omega);have zn:w.heap.size<wc.heap.size:=(by omega);have hZd:Blk ((wc.alloc (.cells #[.int .i64 (f k),.int .i64 (g k)] 88)).drew) (w.heap.size+1+1) (.cells #[.int .i64 base,v1] 30):=hZ1.alloc _;clear t;go_wp2_with fail
      go_region_law((refine step_append_cats _ (by rfl) _ _ (by rfl) w4.heap.size v1 _ _ _ (by rfl) HOa _ 1 1 (fun _=>f k) (fun _=>g k) (by rfl) HOC (by omega) hbs ?_;intro a' c' w' hown' hgrow' hat';have hZ':=Blk.grown hZd hgrow' (HNE.out);obtain⟨p1,p2⟩:=hZ'.two;have pf:=hZ'.frozen2 1))
      all_goals
       clear HOa HOC hbs hZd;go_wp2;go_roundw;case rel=>
        have hgd:w4.grownBy (wc.alloc (.cells #[.int .i64 (f k),.int .i64 (g k)] 88)) (some (w.heap.size+1+1)):=grown_trans hg1 (World.grownBy_alloc _ _ none) (fun j e=>by cases e);have hge:w4.grownBy (wc.alloc (.cells #[.int .i64 (f k),.int .i64 (g k)] 88)).drew (some (w.heap.size+1+1)):=⟨hgd.os,hgd.tape,hgd.output,hgd.size,hgd.block⟩;have hgN:w4.grownBy w' (some (w.heap.size+1+1)):=grown_trans hge hgrow' (fun j e=>(World.ownsRow.lt HO1.out j e).1);have hs:=OwnList.snoc hown';exact⟨k+1,_,by omega,by go_num,by rw[HR1.out],hZ'.set1 _,by rw[HR1.out,if_neg HT.out];exact World.ownsRow.kept hs (grown_set (grown_refl w' _) _ _) (Or.inr (fun e=>by have:=(World.ownsRow.lt hs _ e).1;omega)),grown_set hgN _ _⟩
       case measure=>simp[intOf];omega
  ·have e:k=n:=(by omega);subst e;clear hc;generalize hR:insTo base f g cat level k=r at *;obtain⟨l,d⟩:=r;dsimp only at hO lens ⊢;have HO:Hid (OwnList wr w4.heap.size v l):=hO;have y0:wr.cell? ⟨w.heap.size+1,0,none⟩=some (.int .i64 0):=(grown_cell hg Y0.lt (by omega)).trans Y0.two.1;have y1:wr.cell? ⟨w.heap.size+1,1,none⟩=some (.slice none 0 0):=(grown_cell hg Y0.lt (by omega)).trans Y0.two.2;have fz0:wr.frozen? ⟨w.heap.size+1,0,none⟩=false:=(grown_frozen hg Y0.lt (by omega)).trans (Y0.frozen2 0);have fz1:wr.frozen? ⟨w.heap.size+1,1,none⟩=false:=(grown_frozen hg Y0.lt (by omega)).trans (Y0.frozen2 1);have LW:Below w.heap.size w wr:=hb0.grown hg hb0.size (fun j e=>by cases e;omega);have zz:w.heap.size+1+1<wr.heap.size:=hZ.lt;have HNE:Hid (some (w.heap.size+1+1)≠v.ownBlock):=fun e=>by have:=(World.ownsRow.lt HO.out _ e.symm).1;omega
   cases d with
   |true=>
    have HF:Hid (insFin base k f g cat level=l):=(by show _=_;simp[insFin,hR]);obtain⟨va,vc,rfl⟩:=OwnCats.shape hO;clear hR hO;go_wp2;refine bodyPost_ret (v:= .agg #[.int .i64 base,.slice va l.length vc]) (by simp[results,Tryz.results70,go_sem, *]) rfl ⟨va,vc,by rw[HF.out],?_,?_⟩
    ·rw[HF.out];have hs:=HO.out;have h1:=World.ownsRow.kept hs (grown_set (grown_set (grown_refl wr (w.heap.size+1)) 0 (.int .i64 base)) 1 (.slice va l.length vc)) (Or.inr (fun e=>by have:=(World.ownsRow.lt hs _ e).1;omega));exact ownsRow_base_a h1 (by have:=hb0.size;omega)
    ·exact(LW.setCell (by dsimp only;omega) _).setCell (by dsimp only;omega) _
   |false=>
    have HF:Hid (insFin base k f g cat level=l++[(cat,level)]):=(by show _=_;simp[insFin,hR]);have hYr:Blk wr (w.heap.size+1) (.cells #[.int .i64 0,.slice none 0 0] 30):=Y0.grown hg (by simp);have HNE1:Hid (some (w.heap.size+1)≠v.ownBlock):=fun e=>by have:=(World.ownsRow.lt HO.out _ e.symm).1;omega
    clear hR hO;go_wp2_with(at_builtin;refine wpList_append_cats _ rfl _ _ rfl w4.heap.size _ _ _ _ rfl (OwnCats.alloc HO.out _) _ 1 1 (fun _=>cat) (fun _=>level) rfl (one_cat _ _ _) (by omega) (by simp;omega) ?_;intro a' c' w' hown' hgrow' hat';have hZ':=(hZ.alloc (.cells #[.int .i64 cat,.int .i64 level] 88)).grown hgrow' (HNE.out);obtain⟨p1,p2⟩:=hZ'.two;have pf:=hZ'.frozen2 1;have hY':=(hYr.alloc (.cells #[.int .i64 cat,.int .i64 level] 88)).grown hgrow' (HNE1.out);obtain⟨s1,s2⟩:=hY'.two;have sf0:=hY'.frozen2 0;have sf1:=hY'.frozen2 1)
    have hlen:(l++[(cat,level)]).length=l.length+1:=(by simp);have LW':Below w.heap.size w w':=(LW.alloc (by omega) _).grown hgrow' (by simp;omega) (fun j e=>by have:=(World.ownsRow.lt HO.out j e).1;have:=hb0.size;omega);refine bodyPost_ret (v:= .agg #[.int .i64 base,.slice a' (l.length+1) c']) (by simp[results,Tryz.results70,go_sem, *]) rfl ⟨a',c',by rw[HF.out,hlen],?_,?_⟩
    ·rw[HF.out,hlen];have hs:=OwnList.snoc hown';have h0:=World.ownsRow.kept hs (grown_set (grown_refl w' (w.heap.size+1+1)) 1 (.slice a' (l.length+1) c')) (Or.inr (fun e=>by have:=(World.ownsRow.lt hs _ e).1;omega));have h1:=World.ownsRow.kept h0 (grown_set (grown_set (grown_refl _ (w.heap.size+1)) 0 (.int .i64 base)) 1 (.slice a' (l.length+1) c')) (Or.inr (fun e=>by have:=(World.ownsRow.lt h0 _ e).1;omega));exact ownsRow_base_a h1 (by have:=hb0.size;omega)
    ·exact((LW'.setCell (by dsimp only;omega) _).setCell (by dsimp only;omega) _).setCell (by dsimp only;omega) _
def BytesAt(w:World)(a:Option Addr)(n:Nat):Prop:=
 0<n→∃b off,a=some ⟨b,off,none⟩∧b<w.heap.size∧∀i,i<n→∃v:Int,w.cell? ⟨b,off+i,none⟩=some (.int .u8 v)∧0≤v∧v<256
structure Rd(w0 w:World)(rb:Nat)(a:Option Addr)(n cap:Nat):Prop where
 E:Below w0.heap.size w0 w
 le:w0.heap.size≤rb
 bytes:BytesAt w0 a n
 hn:n≤1048576
 at':∃p:Nat,p≤n∧Blk w rb (.cells #[.slice a n cap,.int .i64 p] 111)
theorem Rd.below{w0 w w':World}{rb:Nat}{a:Option Addr}{n cap:Nat}(h:Rd w0 w rb a n cap)(hb:Below w.heap.size w w'):Rd w0 w' rb a n cap:=by
 obtain⟨E,le,by',hn,p,hp,hB⟩:=h;exact⟨E.trans (hb.mono E.size),le,by',hn,p,hp,hB.below hb⟩
theorem Rd.other{w0 w w':World}{rb P:Nat}{a:Option Addr}{n cap:Nat}(h:Rd w0 w rb a n cap)(hg:w.grownBy w' (some P))(hP:w0.heap.size≤P)(hne:rb≠P):Rd w0 w' rb a n cap:=by
 obtain⟨E,le,by',hn,p,hp,hB⟩:=h;exact⟨E.grown hg E.size (fun j e=>by cases e;exact hP),le,by',hn,p,hp,hB.grown hg (by simpa using hne)⟩
theorem Rd.drew{w0 w:World}{rb:Nat}{a:Option Addr}{n cap:Nat}(h:Rd w0 w rb a n cap):Rd w0 w.drew rb a n cap:=h.below (Below.refl _ _).drew
theorem Rd.lt{w0 w:World}{rb:Nat}{a:Option Addr}{n cap:Nat}(h:Rd w0 w rb a n cap):rb<w.heap.size:=by
 obtain⟨_,_,_,_,p,_,hB⟩:=h;exact hB.lt
theorem grown_pair{a b c:World}{P:Nat}(h:a.grownBy b (some P))(k:b.grownBy c (some P)):a.grownBy c (some P):=
 ⟨k.os.trans h.os,k.tape.trans h.tape,k.output.trans h.output,Nat.le_trans h.size k.size,fun j hj hne=>(k.block j (Nat.lt_of_lt_of_le hj h.size) hne).trans (h.block j hj hne)⟩
theorem grown_drew(w:World)(P:Nat):w.grownBy w.drew (some P):=⟨rfl,rfl,rfl,Nat.le_refl _,fun _ _ _=>rfl⟩
theorem next_any(w0:World)(rb:Nat)(a:Option Addr)(n cap:Nat)(w:World)(h:Rd w0 w rb a n cap):
 Calls Tryz.prog 104 #[.pointer (some ⟨rb,0,none⟩)] w fun e w'=>∃x:Int,e= .returned (.int .i64 x)∧0≤x∧x<256∧Rd w0 w' rb a n cap∧w.grownBy w' (some rb):=by
 obtain⟨E,le,by',hn,p,hp,hB⟩:=h;obtain⟨x1,x2⟩:=hB.two;have f1:=hB.frozen2 1;by_cases t:p<n
 ·obtain⟨b,off,rfl,hlt,hc⟩:=by' (by omega);obtain⟨v,hv,v0,v1⟩:=hc p t;have r1:w.cell? ⟨b,off+p,none⟩=some (.int .u8 v):=(E.cell (p:=⟨b,off+p,none⟩) hlt).trans hv;have hne:b≠rb:=by omega
  have i0:(0:Int)≤(p:Int):=by omega
  have i1:(p:Int)<(n:Int):=by omega
  have HB:Hid (Blk w rb (.cells #[.slice (some ⟨b,off,none⟩) n cap,.int .i64 p] 111)):=hB;have HBY:Hid (BytesAt w0 (some ⟨b,off,none⟩) n):=by';clear hc hv hB by';go_enter Tryz.func104,Tryz.ntmps104
  go_wp2_with fail
  go_region_held3(fun w'=>w'.cell? ⟨rb,0,none⟩=some (.slice (some ⟨b,off,none⟩) n cap)∧w'.cell? ⟨rb,1,none⟩=some (.int .i64 p)) (go_keep) (fail)
  go_wp2_with fail
  have B2:Blk (w.setCell ⟨rb,1,none⟩ (.int .i64 ((p:Int)+1))).drew rb (.cells #[.slice (some ⟨b,off,none⟩) n cap,.int .i64 ((p:Int)+1)] 111):=HB.out.set1 _;have g2:w.grownBy (w.setCell ⟨rb,1,none⟩ (.int .i64 ((p:Int)+1))).drew (some rb):=grown_pair (grown_set (grown_refl _ _) _ _) (grown_drew _ _);generalize (w.setCell ⟨rb,1,none⟩ (.int .i64 ((p:Int)+1))).drew=W2 at *;have r2:W2.cell? ⟨b,off+p,none⟩=some (.int .u8 v):=(grown_cell g2 (Nat.lt_of_lt_of_le hlt E.size) hne).trans r1;obtain⟨y1,y2⟩:=B2.two;have w1:IntKind.i64.wrap ((p:Int)+1-1)=(p:Int):=by rw[IntKind.wrap_i64];omega
  have w2:IntKind.i64.wrap (p:Int)=(p:Int):=by rw[IntKind.wrap_i64];omega
  clear x1 x2 f1 r1;go_region_held3(fun w'=>w'.cell? ⟨rb,0,none⟩=some (.slice (some ⟨b,off,none⟩) n cap)∧w'.cell? ⟨rb,1,none⟩=some (.int .i64 ((p:Int)+1))∧w'.cell? ⟨b,off+p,none⟩=some (.int .u8 v)) (go_keep) (fail)
  go_wp2;go_ret;refine⟨_,rfl,?_,?_,Rd.drew ⟨E.grown g2 E.size (fun j e=>by cases e;exact le),le,HBY.out,hn,p+1,by omega,by simpa using B2⟩,grown_pair g2 (grown_drew _ _)⟩
  ·rw[IntKind.wrap_i64];omega
  ·rw[IntKind.wrap_i64];omega
 ·have e:p=n:=by omega
  subst e;have HB:Hid (Blk w rb (.cells #[.slice a p cap,.int .i64 p] 111)):=hB;have HBY:Hid (BytesAt w0 a p):=by';clear hB by';go_enter Tryz.func104,Tryz.ntmps104
  go_wp2_with fail
  go_region_held3(fun w'=>w'.cell? ⟨rb,0,none⟩=some (.slice a p cap)∧w'.cell? ⟨rb,1,none⟩=some (.int .i64 p)) (go_keep) (fail)
  go_wp2;go_ret;exact⟨0,rfl,by omega,by omega,Rd.drew ⟨E,le,HBY.out,hn,p,hp,HB.out⟩,grown_drew _ _⟩
theorem rdBelow_any(w0:World)(rb:Nat)(a:Option Addr)(n cap:Nat)(m:Nat)(w:World)(hm:m≤65536)(h:Rd w0 w rb a n cap):
 Calls Tryz.prog 68 #[.pointer (some ⟨rb,0,none⟩),.int .i64 m] w fun e w'=>∃x:Nat,e= .returned (.int .i64 x)∧x<m+1∧(1≤m→x<m)∧Rd w0 w' rb a n cap∧w.grownBy w' (some rb):=by
 have HR:Hid (Rd w0 w rb a n cap):=h;clear h;by_cases t:m≤1
 ·have t':(m:Int)≤1:=by omega
  go_enter Tryz.func68,Tryz.ntmps68
  go_wp2;go_ret;exact⟨0,rfl,by omega,by omega,HR.out,grown_refl _ _⟩
 ·have t':¬(m:Int)≤1:=by omega
  have m0:(m:Int)≠0:=by omega
  by_cases t2:m≤256
  ·have t2':(m:Int)≤256:=(by omega);go_enter Tryz.func68,Tryz.ntmps68
   go_wp2_with fail
   refine(next_any w0 rb a n cap _ HR.out).mono ?_;rintro e w1 ⟨x,rfl,x0,x1,R1,g1⟩;obtain⟨y,rfl⟩:∃y:Nat,x=y:=⟨x.toNat,by omega⟩;have HR1:Hid (Rd w0 w1 rb a n cap):=R1;clear R1;go_wp2;go_ret;refine⟨y%m,ret_int ?_,?_,fun _=>Nat.mod_lt _ (by omega),HR1.out,g1⟩
   ·simp
   ·have:=Nat.mod_lt y (show 0<m by omega);omega
  ·have t2':¬(m:Int)≤256:=(by omega);go_enter Tryz.func68,Tryz.ntmps68
   go_wp2_with fail
   refine(next_any w0 rb a n cap _ HR.out).mono ?_;rintro e w1 ⟨x,rfl,x0,x1,R1,g1⟩;obtain⟨y,rfl⟩:∃y:Nat,x=y:=⟨x.toNat,by omega⟩;have wy:IntKind.i64.wrap ((y:Int)*256)=(y:Int)*256:=(by rw[IntKind.wrap_i64];omega);have HR1:Hid (Rd w0 w1 rb a n cap):=R1;clear R1;go_wp2_with fail
   refine(next_any w0 rb a n cap _ HR1.out).mono ?_;rintro e w2 ⟨x,rfl,x2,x3,R2,g2⟩;obtain⟨z,rfl⟩:∃z:Nat,x=z:=⟨x.toNat,by omega⟩;have wz:IntKind.i64.wrap ((y:Int)*256+(z:Int))=(y:Int)*256+(z:Int):=(by rw[IntKind.wrap_i64];omega);have yz:(0:Int)≤(y:Int)*256+(z:Int):=(by omega);have HR2:Hid (Rd w0 w2 rb a n cap):=R2;clear R2;go_wp2;go_ret;refine⟨(y*256+z)%m,ret_int ?_,?_,fun _=>Nat.mod_lt _ (by omega),HR2.out,grown_pair g1 g2⟩
   ·simp
   ·have:=Nat.mod_lt (y*256+z) (show 0<m by omega);omega
theorem once_any(w0:World)(rb:Nat)(a:Option Addr)(n cap:Nat)(m:Nat)(w:World)(hm:m≤65536)(h:Rd w0 w rb a n cap):
 Calls Tryz.prog 69 #[.pointer (some ⟨rb,0,none⟩),.int .i64 m] w fun e w'=>∃t:Bool,e= .returned (.bool t)∧Rd w0 w' rb a n cap∧w.grownBy w' (some rb):=by
 have HR:Hid (Rd w0 w rb a n cap):=h;clear h;go_enter Tryz.func69,Tryz.ntmps69
 go_wp2_with fail
 refine(rdBelow_any w0 rb a n cap m _ hm HR.out).mono ?_;rintro e w1 ⟨x,rfl,_,_,R1,g1⟩;have HR1:Hid (Rd w0 w1 rb a n cap):=R1;have wm:IntKind.i64.wrap ((m:Int)-1)=(m:Int)-1:=by rw[IntKind.wrap_i64];omega
 clear R1;go_wp2;go_ret;exact⟨_,rfl,HR1.out,g1⟩
theorem word_any(w0:World)(rb:Nat)(a:Option Addr)(n cap:Nat)(w:World)(h:Rd w0 w rb a n cap):
 Calls Tryz.prog 126 #[.pointer (some ⟨rb,0,none⟩)] w fun e w'=>∃x:Int,e= .returned (.int .u64 x)∧Rd w0 w' rb a n cap∧w.grownBy w' (some rb):=by
 have HR:Hid (Rd w0 w rb a n cap):=h;clear h;go_enter Tryz.func126,Tryz.ntmps126
 go_wp2;go_loopw [3,4] (fun v i wr=>∃(k:Nat) (x:Int),k≤8∧i= .int .i64 k∧v= .int .u64 x∧Rd w0 wr rb a n cap∧w.grownBy wr (some rb)) (fun _ i _=>8-(intOf i).toNat)
 case atStart=>exact⟨0,0,by omega,rfl,rfl,HR.out,grown_refl _ _⟩
 case round=>
  obtain⟨k,x,hk,rfl,rfl,R1,g1⟩:=hrel;have HR1:Hid (Rd w0 wr rb a n cap):=R1;clear R1;by_cases t:k<8
  ·have t':(k:Int)<8:=(by omega);go_wp2_with fail
   refine(next_any w0 rb a n cap _ HR1.out).mono ?_;rintro e w2 ⟨y,rfl,y0,y1,R2,g2⟩;have HR2:Hid (Rd w0 w2 rb a n cap):=R2;clear R2;go_wp2;go_roundw;case rel=>exact⟨k+1,_,by omega,by go_num,rfl,HR2.out,grown_pair g1 g2⟩
   case measure=>simp[intOf];omega
  ·have t':¬(k:Int)<8:=(by omega);go_wp2;go_ret;exact⟨⟨x,rfl⟩,HR1.out,g1⟩
theorem near_any(w0:World)(rb:Nat)(a:Option Addr)(n cap:Nat)(lo hi:Nat)(w:World)(hl:lo≤hi)(hh:hi≤1000)(h:Rd w0 w rb a n cap):
 Calls Tryz.prog 105 #[.pointer (some ⟨rb,0,none⟩),.int .i64 lo,.int .i64 hi] w fun e w'=>∃x:Int,e= .returned (.int .i64 x)∧Rd w0 w' rb a n cap∧w.grownBy w' (some rb):=by
 have HR:Hid (Rd w0 w rb a n cap):=h;clear h;have w1:IntKind.i64.wrap ((hi:Int)-lo)=(hi:Int)-lo:=by rw[IntKind.wrap_i64];omega
 have w2:IntKind.i64.wrap ((hi:Int)-lo+1)=(hi:Int)-lo+1:=by rw[IntKind.wrap_i64];omega
 have nl:¬(hi:Int)<(lo:Int):=by omega
 go_enter Tryz.func105,Tryz.ntmps105
 go_wp2_with fail
 refine(rdBelow_any w0 rb a n cap 8 _ (by omega) HR.out).mono ?_;rintro e u1 ⟨x,rfl,_,x8,R1,g1⟩;have HR1:Hid (Rd w0 u1 rb a n cap):=R1;clear R1;by_cases t0:x=0
 ·subst t0;go_wp2;go_ret;exact⟨_,rfl,HR1.out,g1⟩
 ·by_cases t1:x=1
  ·subst t1;go_wp2;go_ret;exact⟨_,rfl,HR1.out,g1⟩
  ·have t0':((x:Int)==0)=false:=(by simpa using t0);have t1':((x:Int)==1)=false:=(by simp;omega);go_wp2_with fail
   refine(word_any w0 rb a n cap _ HR1.out).mono ?_;rintro e u2 ⟨y,rfl,R2,g2⟩;have HR2:Hid (Rd w0 u2 rb a n cap):=R2;clear R2;have m1:IntKind.u64.wrap ((hi:Int)-lo+1)=(hi:Int)-lo+1:=(by rw[IntKind.wrap_u64];omega);have m0:¬((hi:Int)-lo+1)=0:=(by omega);go_wp2;go_ret;exact⟨_,rfl,HR2.out,grown_pair g1 g2⟩
theorem off_any(w0:World)(rb:Nat)(a:Option Addr)(n cap:Nat)(lo hi:Nat)(w:World)(hl:lo≤hi)(hh:hi≤1000)(h:Rd w0 w rb a n cap):
 Calls Tryz.prog 71 #[.pointer (some ⟨rb,0,none⟩),.int .i64 lo,.int .i64 hi] w fun e w'=>∃x:Int,e= .returned (.int .i64 x)∧Rd w0 w' rb a n cap∧w.grownBy w' (some rb):=by
 have HR:Hid (Rd w0 w rb a n cap):=h;clear h;have w1:IntKind.i64.wrap ((lo:Int)-1)=(lo:Int)-1:=by rw[IntKind.wrap_i64];omega
 have w2:IntKind.i64.wrap ((hi:Int)+1)=(hi:Int)+1:=by rw[IntKind.wrap_i64];omega
 go_enter Tryz.func71,Tryz.ntmps71
 go_wp2_with fail
 refine(once_any w0 rb a n cap 24 _ (by omega) HR.out).mono ?_;rintro e u1 ⟨t,rfl,R1,g1⟩;have HR1:Hid (Rd w0 u1 rb a n cap):=R1;clear R1;cases t with
 |true=>
  go_wp2_with fail
  have lr:=HR1.out.lt;refine(rdBelow_any w0 rb a n cap 4 _ (by omega) (HR1.out.below ((Below.refl _ _).alloc (Nat.le_refl _) _))).mono ?_;rintro e u2 ⟨x,rfl,_,x4,R2,g2⟩;have x4':=x4 (by omega);have HR2:Hid (Rd w0 u2 rb a n cap):=R2;have gN:w.grownBy u2 (some rb):=grown_pair (grown_trans g1 (World.grownBy_alloc u1 _ none) (fun j e=>by cases e)) g2;have Bk:Blk u2 u1.heap.size (.cells #[.int .i64 ((lo:Int)-1),.int .i64 ((hi:Int)+1),.int .i64 (-9223372036854775808),.int .i64 9223372036854775807] 2):=(Blk.new u1 _).grown g2 (by simp;omega);unfold Blk at Bk;have c0:u2.cell? ⟨u1.heap.size,0,none⟩=some (.int .i64 ((lo:Int)-1)):=by simp[World.cell?,Bk]
  have c1:u2.cell? ⟨u1.heap.size,1,none⟩=some (.int .i64 ((hi:Int)+1)):=by simp[World.cell?,Bk]
  have c2:u2.cell? ⟨u1.heap.size,2,none⟩=some (.int .i64 (-9223372036854775808)):=by simp[World.cell?,Bk]
  have c3:u2.cell? ⟨u1.heap.size,3,none⟩=some (.int .i64 9223372036854775807):=by simp[World.cell?,Bk]
  clear R2 x4 Bk g2;have hx:x=0∨x=1∨x=2∨x=3:=by omega
  rcases hx with rfl|rfl|rfl|rfl;all_goals
   clear x4';go_wp2;go_ret;exact⟨_,rfl,HR2.out,gN⟩
 |false=>
  go_wp2_with fail
  refine(near_any w0 rb a n cap lo hi _ hl hh HR1.out).mono ?_;rintro e u2 ⟨x,rfl,R2,g2⟩;have HR2:Hid (Rd w0 u2 rb a n cap):=R2;clear R2;go_wp2;go_ret;exact⟨_,rfl,HR2.out,grown_pair g1 g2⟩
section
variable {P:Program}{ops:Array Oper}{Q:Exit→Act→World→Prop}{md:Region.Mode}{S:World→Prop}{n:Nat}
def AnyL(P:Program)(md:Region.Mode)(ops:Array Oper)(Q:Exit→Act→World→Prop)(S:World→Prop)(n:Nat)(f:Nat)(L:Array Bool)(a:Act)(w:World):Prop:=
 match f with
 |0=>Region.ready md ops L=[]∧Q .normal a w
 |f+1=>(Region.ready md ops L=[]→Q .normal a w)∧
  ∀i∈Region.ready md ops L,wpOp P ops Q i (fun a' w'=>(i≠n→S w')∧AnyL P md ops Q S n f (L.setIfInBounds i true) a' w') a w
theorem AnyL.any{f:Nat}:∀{L:Array Bool}{a:Act}{w:World},AnyL P md ops Q S n f L a w→wpAny P md ops Q f L a w:=by
 induction f with
 |zero=>intro L a w h;exact h
 |succ f ih=>intro L a w h;exact⟨h.1,fun i hi=>wpOp_mono (fun _ _ k=>ih k.2) (h.2 i hi)⟩
theorem ready_unlisted{i:Nat}{L:Array Bool}(h:i∈Region.ready md ops L):L.getD i false=false:=by
 have h0:=(mem_ready.1 h).1;by_cases hl:i<L.size
 ·simp[hl]at h0 ⊢;exact h0
 ·simp[Array.getElem?_eq_none (Nat.le_of_not_lt hl)]
theorem AnyL.takes{i:Nat}{oi:Oper}{v:Value}(hi:ops[i]? =some oi)(hs:Region.noSelect ops=true)
 (hwait:∀o,ops[n]? =some o→∃e∈o.after,Region.binds md e=true∧e.on=i)
 (hQ:∀c a w,Q (.panic c) (a.put oi.dst v) w→Q (.panic c) a w)(f:Nat):∀{L:Array Bool}{a:Act}{w:World},
 (∀j oj,ops[j]? =some oj→j≠i→L.getD j true=false→(∀e∈oj.after,Region.binds md e=true→e.on≠i)→oi.apart ops oj=true)→
 i∈Region.ready md ops L→YieldsIf P ops S oi v a→S w→AnyL P md ops Q S n f (L.setIfInBounds i true) (a.put oi.dst v) w→AnyL P md ops Q S n (f+1) L a w:=by
 have sel:=Region.noSelect_spec hs;induction f with
 |zero=>
  intro L a w _ hr hy hS H;refine⟨fun e=>absurd hr (by rw[e];simp),fun j hj=>?_⟩;by_cases e:j=i
  ·subst e;exact hy.wpOp hi hS ⟨fun _=>hS,H⟩
  ·have:=ready_mono hj e;rw[H.1]at this;simp at this
 |succ f ih=>
  intro L a w hfree hr hy hS H;refine⟨fun e=>absurd hr (by rw[e];simp),fun j hj=>?_⟩;by_cases e:j=i
  ·subst e;exact hy.wpOp hi hS ⟨fun _=>hS,H⟩
  ·obtain⟨hun,oj,hoj,hall⟩:=mem_ready.1 hj;have un:=ready_unlisted hr;have apart:∀x∈oj.after,Region.binds md x=true→x.on≠i:=fun x hx hb hq=>by
    have:=hall x hx hb;rw[hq,un]at this;cases this
   have hjn:j≠n:=fun hq=>by
    obtain⟨x,hx,hb,ho⟩:=hwait oj (by rw[←hq];exact hoj);exact apart x hx hb ho
   refine wpOp_mono (fun a' w' k=>⟨fun _=>k.2.1 hjn,?_⟩) (wpOp_putIf hoj (hfree j oj hoj e hun apart) (fun cs b=>sel i oi cs b hi) (fun cs b=>sel j oj cs b hoj) hQ hy (H.2 j (ready_mono hj e)));refine ih (fun k ok hk hki hkl hkn=>hfree k ok hk hki ?_ hkn) (ready_mono hr (Ne.symm e)) k.1 (k.2.1 hjn) ?_
   ·by_cases q:j=k
    ·subst q;exact hun
    ·rw[getD_set_ne true q]at hkl;exact hkl
   ·rw[Array.setIfInBounds_comm _ _ e];exact k.2.2
def waitsL(md:Region.Mode)(ops:Array Oper)(n i:Nat):Bool:=match ops[n]? with
 |some o=>o.after.any (fun e=>Region.binds md e&&e.on==i)
 |none=>true
theorem waits_out{i:Nat}(h:waitsL md ops n i=true):∀o,ops[n]? =some o→∃e∈o.after,Region.binds md e=true∧e.on=i:=fun o ho=>by
 unfold waitsL at h;rw[ho]at h;dsimp only at h;obtain⟨e,he,hb⟩:=Array.any_eq_true'.1 h;simp only[Bool.and_eq_true,beq_iff_eq]at hb;exact⟨e,he,hb⟩
theorem AnyL.take{i:Nat}{oi:Oper}(v:Value){f:Nat}{L:Array Bool}{a:Act}{w:World}(hi:ops[i]? =some oi)(hs:Region.noSelect ops=true)(hf:Region.free md ops L i=true)
 (hr:(Region.ready md ops L).contains i=true)(hw:waitsL md ops n i=true)(hQ:∀c a w,Q (.panic c) (a.put oi.dst v) w→Q (.panic c) a w)(hS:S w)
 (hy:YieldsIf P ops S oi v a)(h:AnyL P md ops Q S n f (L.setIfInBounds i true) (a.put oi.dst v) w):AnyL P md ops Q S n (f+1) L a w:=
 AnyL.takes hi hs (waits_out hw) hQ f (Region.free_spec hi hf) (by simpa using hr) hy hS h
theorem AnyL.one{i:Nat}{o:Oper}{f:Nat}{L:Array Bool}{a:Act}{w:World}(hi:ops[i]? =some o)(hr:Region.ready md ops L=[i])
 (h:∀K':Act→World→Prop,Hid (∀a w,(i≠n→S w)→AnyL P md ops Q S n f (L.setIfInBounds i true) a w→K' a w)→if Region.wanted o (yielded ops a.tmps)=true then Oper.wp P o a w K' Q else K' (a.put o.dst undef) w):AnyL P md ops Q S n (f+1) L a w:=
 ⟨fun e=>absurd (hr.symm.trans e) (by simp),fun j hj=>by
   rw[hr]at hj;obtain rfl:j=i:=by simpa using hj
   exact wpOp_step hi (fun K' hK=>h K' (fun a w h1 h2=>hK a w ⟨h1,h2⟩))⟩
theorem AnyL.done{f:Nat}{L:Array Bool}{a:Act}{w:World}(hr:Region.ready md ops L=[])(h:Q .normal a w):AnyL P md ops Q S n f L a w:=by
 cases f with
 |zero=>exact⟨hr,h⟩
 |succ f=>exact⟨fun _=>h,fun i hi=>by rw[hr]at hi;simp at hi⟩
theorem AnyL.region{id:Nat}{a:Act}{w:World}(S:World→Prop)(n:Nat)(hm:P.follows .mixedOrders=true)(h:AnyL P .any ops Q S n ops.size (Array.replicate ops.size false) a w.drew):(Code.region id ops true).wp P Q a w:=
 wp_region_any hm h.any
end
end Go.Proofs.YtbacmamplkdgaaaGreatDoor
