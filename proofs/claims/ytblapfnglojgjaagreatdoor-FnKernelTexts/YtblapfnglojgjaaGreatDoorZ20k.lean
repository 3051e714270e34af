import Derived.BigRegion
import Derived.Deep.RegionHeld
import Derived.Test.YtblapfnglojgjaaGreatDoorZ19k
set_option maxRecDepth 100000
set_option maxHeartbeats 2000000
namespace Go.Proofs.YtblapfnglojgjaaGreatDoor
open Go.RowKit Go.Deep Go.Maps Go.Proofs.Tryz
def IQ(l:List (Int×Int))(d:Bool)(cat level x:Int):List (Int×Int)×Bool:=if !d&&decide (cat<=x)then(l++[(cat,level)],true)else(l,d)
theorem PM{base:Int}{f g:Nat->Int}{cat level:Int}{k:Nat}{l:List (Int×Int)}{d:Bool}(h:FZ base f g cat level k=(l,d)):
 FZ base f g cat level (k+1)=(if f k=cat then(IQ l d cat level (f k)).1 else(IQ l d cat level (f k)).1++[(f k,g k)],(IQ l d cat level (f k)).2):=by
 simp only[FZ,h,IQ]
theorem YA(l:List (Int×Int))(d:Bool)(cat level x:Int):(IQ l d cat level x).1.length<=l.length+1:=by
 unfold IQ;split<;>simp
theorem Gr(base:Int)(a:Option Addr)(n cap:Nat)(f g:Nat->Int)(cat level:Int)(w:World)(hn:n<=1048576)(hc:Bi w a n f g):
 Calls prog 64 #[.agg #[.int .i64 base,.slice a n cap],cat,.int .i64 level] w fun e w'=>∃va vc,e= .returned (.agg #[.int .i64 base,.slice va (Et base n f g cat level).length vc])/\
  An w' w (.slice va (Et base n f g cat level).length vc) (Et base n f g cat level)/\Below w w w':=by
 have n3:No (.cells #[.int .i64 base,.slice none 0 0] 44):=⟨⟩;have n4:No (.cells #[.int .i64 base,.slice a n cap] 44):=⟨⟩;have n5:No (.cells #[.int .i64 0,.slice none 0 0] 44):=⟨⟩;have hb0:=(((Below.refl _ w).alloc nr n4).alloc (by simp) n5).alloc (by simp;omega) n3;have n1:Nw (((w.alloc n4).alloc n5).alloc n3):=⟨⟩;have X0:Ai n1 w n4:=((Ai.new w _).alloc _).alloc _;have Y0:Ai n1 (w.heap.size+1) n5:=by
  have:=(Ai.new (w.alloc n4) n5).alloc n3;simpa using this
 have Z0:Ai n1 (w.heap.size+1+1) n3:=by
  have:=Ai.new ((w.alloc n4).alloc n5) n3;simpa using this
 go_enter func64,ntmps64
 go_wp2;obtain⟨w4,hW0⟩:∃w4:World,n1=w4:=⟨_,rfl⟩;rw[hW0]at hb0 X0 Y0 Z0 ⊢;clear hW0;go_loopw [8,9] (fun d i wr=>∃(k:Nat) (v:Value),k<=n/\i= .int .i64 k/\d= .bool (FZ base f g cat level k).2/\Ai wr (w.heap.size+1+1) (.cells #[.int .i64 base,v] 44)/\An wr w4 v (FZ base f g cat level k).1/\w4.grownBy wr (some (w.heap.size+1+1))) (fun _ i _=>n-(intOf i).toNat)
 case atStart=>exact⟨0,_,Nat.zero_le _,rfl,rfl,Z0,As.nil _ _ _ _,Bs _ _⟩
 case round=>
  obtain⟨k,v,hk,rfl,rfl,hZ,hO,hg⟩:=hrel;have lz:=Z0.lt;have r1:wr.cell? ⟨w,0,none⟩=some (.int .i64 base):=(Df hg X0.lt (by omega)).trans X0.two.1;have r2:wr.cell? ⟨w,1,none⟩=some (.slice a n cap):=(Df hg X0.lt (by omega)).trans X0.two.2;obtain⟨r3,r4⟩:=hZ.two;have hf1:=hZ.jQ 1;have lens:=XG base f g cat level k;have hw4:=hg.size;by_cases hlt':k<n
  ·obtain⟨b,off,rfl,hlt,hcc⟩:=hc (by omega);have hbl:b<w4.heap.size:=Nat.lt_of_lt_of_le hlt hb0.size;have g1:wr.cell? ⟨b,off+k*2,none⟩=some (.int .i64 (f k)):=(Df hg hbl (by omega)).trans ((hb0.cell (p:=⟨b,_,none⟩) hlt).trans (hcc k hlt').1);have g2:wr.cell? ⟨b,off+k*2+1,none⟩=some (.int .i64 (g k)):=(Df hg hbl (by omega)).trans ((hb0.cell (p:=⟨b,_,none⟩) hlt).trans (hcc k hlt').2);have HC1:Hid (w4.cell? ⟨b,off+k*2,none⟩=some (.int .i64 (f k))):=(hb0.cell (p:=⟨b,_,none⟩) hlt).trans (hcc k hlt').1;have HC2:Hid (w4.cell? ⟨b,off+k*2+1,none⟩=some (.int .i64 (g k))):=(hb0.cell (p:=⟨b,_,none⟩) hlt).trans (hcc k hlt').2;have i0:(0:Int)<=(k:Int):=(by omega);have i1:(k:Int)<(n:Int):=(by omega);generalize hR:FZ base f g cat level k=r at *;obtain⟨l,d⟩:=r;dsimp only at hO lens ⊢;have HO:Hid (An wr w4 v l):=hO;have HR:Hid (FZ base f g cat level k=(l,d)):=hR;have zz:w.heap.size+1+1<wr.heap.size:=hZ.lt;have HNE:Hid (some (w.heap.size+1+1)≠v.ownBlock):=fun e=>by have:=(World.ownsRow.lt HO _ e.symm).1;omega
   clear hcc hO hR;obtain⟨tb,htb⟩:∃tb,tb=(!d&&decide (cat<=f k)):=⟨_,rfl⟩;have HTB:Hid (tb=(!d&&decide (cat<=f k))):=htb;clear htb;go_upto_region 6 with fail
   go_cut[35] (fun t wc=>t= .bool tb/\wc=wr)
   case first=>
    cases d with
    |true=>
     go_wp2_with fail
     go_meet;case rel=>exact⟨by rw[HTB.out];rfl,rfl⟩
    |false=>
     go_wp2_with fail
     go_meet;case rel=>exact⟨by rw[HTB.out];rfl,rfl⟩
   case rest=>
    obtain⟨rfl,rfl⟩:=hcut;go_upto_if 35 with fail
    go_cut[8] (fun dd wc=>∃v1:Value,dd= .bool (IQ l d cat level (f k)).2/\Ai wc (w.heap.size+1+1) (.cells #[.int .i64 base,v1] 44)/\An wc w4 v1 (IQ l d cat level (f k)).1/\w4.grownBy wc (some (w.heap.size+1+1)))
    case first=>
     cases tb with
     |true=>
      have HP:Hid (IQ l d cat level (f k)=(l++[(cat,level)],true)):=by
       show _=_;unfold IQ;rw[if_pos HTB.out.symm]
      go_wp2_with(at_builtin;refine Cy _ rfl _ _ rfl w4 _ _ _ _ rfl (As.alloc HO _) _ 1 1 (fun _=>cat) (fun _=>level) rfl (Kp _ _ _) (by omega) (by simp;omega) ?_;intro a' c' w' hown' hgrow' hat';have hZ':=(hZ.alloc (.cells #[cat,.int .i64 level] 96)).grown hgrow' (HNE);obtain⟨p1,p2⟩:=hZ'.two;have pf:=hZ'.jQ 1)
      go_meet;case rel=>
       have hgN:w4.grownBy w' (some (w.heap.size+1+1)):=Da (Da hg (World.grownBy_alloc _ _ none) (fun j e=>by cases e)) hgrow' (fun j e=>(World.ownsRow.lt HO j e).1);refine⟨_,by rw[HP.out],hZ'.set1 _,?_,Ck hgN _ _⟩;rw[HP.out];have hs:=An.snoc hown';exact World.ownsRow.kept hs (Ck (Bs w' _) _ _) (Or.inr (fun e=>by have:=(World.ownsRow.lt hs _ e).1;omega))
     |false=>
      have HP:Hid (IQ l d cat level (f k)=(l,d)):=by
       show _=_;unfold IQ;rw[if_neg (by rw[<-HTB.out];simp)]
      go_wp2_with fail
      go_meet;case rel=>exact⟨v,by rw[HP.out],hZ,by rw[HP.out];exact HO.out,hg⟩
    case rest=>
     obtain⟨v1,rfl,hZ1,hO1,hg1⟩:=hcut;have y1:wc.cell? ⟨w,0,none⟩=some (.int .i64 base):=(Df hg1 X0.lt (by omega)).trans X0.two.1;have y2:wc.cell? ⟨w,1,none⟩=some (.slice (some ⟨b,off,none⟩) n cap):=(Df hg1 X0.lt (by omega)).trans X0.two.2;obtain⟨y3,y4⟩:=hZ1.two;have yf:=hZ1.jQ 1;have e1:wc.cell? ⟨b,off+k*2,none⟩=some (.int .i64 (f k)):=(Df hg1 hbl (by omega)).trans HC1.out;have e2:wc.cell? ⟨b,off+k*2+1,none⟩=some (.int .i64 (g k)):=(Df hg1 hbl (by omega)).trans HC2.out;have hs1:=hg1.size;have lenq:=YA l d cat level (f k);have HO1:Hid (An wc w4 v1 (IQ l d cat level (f k)).1):=hO1;have HR1:Hid (FZ base f g cat level (k+1)=(if f k=cat then(IQ l d cat level (f k)).1 else(IQ l d cat level (f k)).1++[(f k,g k)],(IQ l d cat level (f k)).2)):=PM HR.out;generalize IQ l d cat level (f k)=q at *;obtain⟨l1,d1⟩:=q;dsimp only at lenq ⊢;clear g1 g2 r1 r2 r3 r4 hf1 hZ hg HTB HNE HO hO1 HR;by_cases t:f k=cat
     ·have t':(f k != cat)=false:=(by simpa using t);have HT:Hid (f k=cat):=t;clear t;go_wp2;go_roundw;case rel=>
       exact⟨k+1,v1,by omega,by go_num,by rw[HR1.out],hZ1,by rw[HR1.out,if_pos HT.out];exact HO1.out,hg1⟩
      case measure=>simp[intOf];omega
     ·have t':(f k != cat)=true:=(by simpa using t);have HT:Hid (¬f k=cat):=t;have n2:Nw (wc.alloc (.cells #[.int .i64 (f k),.int .i64 (g k)] 96)):=⟨⟩;have HOa:As ((n2:World).drew) w4 v1 l1.length (Az l1) (Ay l1):=As.alloc HO1 _;have HOC:Bi ((n2:World).drew) (some ⟨wc,0,none⟩) 1 (fun _=>f k) (fun _=>g k):=(Kp wc (f k) (g k)).below (Below.refl _ _).drew;have hbs:w4.heap.size<=((n2:World).drew).heap.size:=(by show w4.heap.size<=(wc.alloc _).heap.size;simp;omega);have HNE:Hid (some (w.heap.size+1+1)≠v1.ownBlock):=fun e=>by have:=(World.ownsRow.lt HO1 _ e.symm).1;omega
      have zz:w.heap.size+1+1<wc.heap.size:=hZ1.lt;have zb:b<wc.heap.size:=(by omega);have zn:w.heap.size<wc.heap.size:=(by omega);have hZd:Ai ((n2:World).drew) (w.heap.size+1+1) (.cells #[.int .i64 base,v1] 44):=hZ1.alloc _;clear t;go_wp2_with fail
      go_region_law((refine Ez _ (by rfl) _ _ (by rfl) w4 v1 _ _ _ (by rfl) HOa _ 1 1 (fun _=>f k) (fun _=>g k) (by rfl) HOC (by omega) hbs ?_;intro a' c' w' hown' hgrow' hat';have hZ':=Ai.grown hZd hgrow' (HNE);obtain⟨p1,p2⟩:=hZ'.two;have pf:=hZ'.jQ 1))
      all_goals
       clear HOa HOC hbs hZd;go_wp2;go_roundw;case rel=>
        have hgd:w4.grownBy n2 (some (w.heap.size+1+1)):=Da hg1 (World.grownBy_alloc _ _ none) (fun j e=>by cases e);have hge:w4.grownBy (n2:World).drew (some (w.heap.size+1+1)):=⟨hgd.os,hgd.tape,hgd.output,hgd.size,hgd.block⟩;have hgN:w4.grownBy w' (some (w.heap.size+1+1)):=Da hge hgrow' (fun j e=>(World.ownsRow.lt HO1 j e).1);have hs:=An.snoc hown';exact⟨k+1,_,by omega,by go_num,by rw[HR1.out],hZ'.set1 _,by rw[HR1.out,if_neg HT.out];exact World.ownsRow.kept hs (Ck (Bs w' _) _ _) (Or.inr (fun e=>by have:=(World.ownsRow.lt hs _ e).1;omega)),Ck hgN _ _⟩
       case measure=>simp[intOf];omega
  ·have e:k=n:=(by omega);subst e;clear hc;generalize hR:FZ base f g cat level k=r at *;obtain⟨l,d⟩:=r;dsimp only at hO lens ⊢;have HO:Hid (An wr w4 v l):=hO;have y0:wr.cell? ⟨w.heap.size+1,0,none⟩=some (.int .i64 0):=(Df hg Y0.lt (by omega)).trans Y0.two.1;have y1:wr.cell? ⟨w.heap.size+1,1,none⟩=some (.slice none 0 0):=(Df hg Y0.lt (by omega)).trans Y0.two.2;have fz0:wr.frozen? ⟨w.heap.size+1,0,none⟩=false:=(LZ hg Y0.lt (by omega)).trans (Y0.jQ 0);have fz1:wr.frozen? ⟨w.heap.size+1,1,none⟩=false:=(LZ hg Y0.lt (by omega)).trans (Y0.jQ 1);have LW:Below w w wr:=hb0.grown hg hb0.size (fun j e=>by cases e;omega);have zz:w.heap.size+1+1<wr.heap.size:=hZ.lt;have HNE:Hid (some (w.heap.size+1+1)≠v.ownBlock):=fun e=>by have:=(World.ownsRow.lt HO _ e.symm).1;omega
   cases d with
   |true=>
    have HF:Hid (Et base k f g cat level=l):=(by show _=_;simp[Et,hR]);obtain⟨va,vc,rfl⟩:=As.shape hO;clear hR hO;go_wp2;refine bodyPost_ret (v:= .agg #[.int .i64 base,.slice va l.length vc]) (by simp[results,Tryz.results64,go_sem, *]) rfl ⟨va,vc,by rw[HF.out],?_,?_⟩
    ·rw[HF.out];have hs:=HO.out;have h1:=World.ownsRow.kept hs (Ck (Ck (Bs wr (w.heap.size+1)) 0 (.int .i64 base)) 1 (.slice va l.length vc)) (Or.inr (fun e=>by have:=(World.ownsRow.lt hs _ e).1;omega));exact ownsRow_base_a h1 (by have:=hb0.size;omega)
    ·exact(LW.setCell (by dsimp only;omega) _).setCell (by dsimp only;omega) _
   |false=>
    have HF:Hid (Et base k f g cat level=l++[(cat,level)]):=(by show _=_;simp[Et,hR]);have hYr:Ai wr (w.heap.size+1) (.cells #[.int .i64 0,.slice none 0 0] 44):=Y0.grown hg (by simp);have HNE1:Hid (some (w.heap.size+1)≠v.ownBlock):=fun e=>by have:=(World.ownsRow.lt HO _ e.symm).1;omega
    clear hR hO;have n6:No (.cells #[cat,.int .i64 level] 96):=⟨⟩;go_wp2_with(at_builtin;refine Cy _ rfl _ _ rfl w4 _ _ _ _ rfl (As.alloc HO _) _ 1 1 (fun _=>cat) (fun _=>level) rfl (Kp _ _ _) (by omega) (by simp;omega) ?_;intro a' c' w' hown' hgrow' hat';have hZ':=(hZ.alloc n6).grown hgrow' (HNE);obtain⟨p1,p2⟩:=hZ'.two;have pf:=hZ'.jQ 1;have hY':=(hYr.alloc n6).grown hgrow' (HNE1);obtain⟨s1,s2⟩:=hY'.two;have sf0:=hY'.jQ 0;have sf1:=hY'.jQ 1)
    have hlen:(l++[(cat,level)]).length=l.length+1:=(by simp);have LW':Below w w w':=(LW.alloc (by omega) _).grown hgrow' (by simp;omega) (fun j e=>by have:=(World.ownsRow.lt HO j e).1;have:=hb0.size;omega);refine bodyPost_ret (v:= .agg #[.int .i64 base,.slice a' (l.length+1) c']) (by simp[results,Tryz.results64,go_sem, *]) rfl ⟨a',c',by rw[HF.out,hlen],?_,?_⟩
    ·rw[HF.out,hlen];have hs:=An.snoc hown';have h0:=World.ownsRow.kept hs (Ck (Bs w' (w.heap.size+1+1)) 1 (.slice a' (l.length+1) c')) (Or.inr (fun e=>by have:=(World.ownsRow.lt hs _ e).1;omega));have h1:=World.ownsRow.kept h0 (Ck (Ck (Bs _ (w.heap.size+1)) 0 (.int .i64 base)) 1 (.slice a' (l.length+1) c')) (Or.inr (fun e=>by have:=(World.ownsRow.lt h0 _ e).1;omega));exact ownsRow_base_a h1 (by have:=hb0.size;omega)
    ·exact((LW'.setCell (by dsimp only;omega) _).setCell (by dsimp only;omega) _).setCell (by dsimp only;omega) _
variable {w0 w w':World}{rb n cap P:Nat}{a:Option Addr}
def BytesAt(w:World)(a:Option Addr)(n:Nat):Prop:=
 0<n->∃b off,a=some ⟨b,off,none⟩/\b<w.heap.size/\∀i,i<n->∃v:Int,w.cell? ⟨b,off+i,none⟩=some (.int .u8 v)/\0<=v/\v<256
structure Rd(w0 w:World)(rb:Nat)(a:Option Addr)(n cap:Nat):Prop where
 E:Below w0 w0 w
 le:w0.heap.size<=rb
 bytes:BytesAt w0 a n
 hn:n<=1048576
 at':∃p:Nat,p<=n/\Ai w rb (.cells #[.slice a n cap,.int .i64 p] 71)
theorem Rd.below(h:Rd w0 w rb a n cap)(hb:Below w w w'):Rd w0 w' rb a n cap:=by
 obtain⟨E,le,by',hn,p,hp,hB⟩:=h;exact⟨E.trans (hb.mono E.size),le,by',hn,p,hp,hB.below hb⟩
theorem Rd.other(h:Rd w0 w rb a n cap)(hg:w.grownBy w' (some P))(hP:w0.heap.size<=P)(hne:rb≠P):Rd w0 w' rb a n cap:=by
 obtain⟨E,le,by',hn,p,hp,hB⟩:=h;exact⟨E.grown hg E.size (fun j e=>by cases e;exact hP),le,by',hn,p,hp,hB.grown hg (by simpa using hne)⟩
theorem Rd.drew(h:Rd w0 w rb a n cap):Rd w0 w.drew rb a n cap:=h.below (Below.refl _ _).drew
theorem Rd.lt(h:Rd w0 w rb a n cap):rb<w.heap.size:=by
 obtain⟨_,_,_,_,p,_,hB⟩:=h;exact hB.lt
theorem BH{a b c:World}(h:a.grownBy b (some P))(k:b.grownBy c (some P)):a.grownBy c (some P):=
 ⟨k.os.trans h.os,k.tape.trans h.tape,k.output.trans h.output,Nat.le_trans h.size k.size,fun j hj hne=>(k.block j (Nat.lt_of_lt_of_le hj h.size) hne).trans (h.block j hj hne)⟩
theorem Lh(w:World)(P:Nat):w.grownBy w.drew (some P):=⟨rfl,rfl,rfl,Nat.le_refl _,fun _ _ _=>rfl⟩
theorem Hv(w0:World)(rb:Nat)(a:Option Addr)(n cap:Nat)(w:World)(h:Rd w0 w rb a n cap):
 Calls prog 59 #[.pointer rb] w fun e w'=>∃x:Int,e= .returned (.int .i64 x)/\0<=x/\x<256/\Rd w0 w' rb a n cap/\w.grownBy w' (some rb):=by
 obtain⟨E,le,by',hn,p,hp,hB⟩:=h;obtain⟨x1,x2⟩:=hB.two;have f1:=hB.jQ 1;by_cases t:p<n
 ·obtain⟨b,off,rfl,hlt,hc⟩:=by' (by omega);obtain⟨v,hv,v0,v1⟩:=hc p t;have r1:w.cell? ⟨b,off+p,none⟩=some (.int .u8 v):=(E.cell (p:=⟨b,off+p,none⟩) hlt).trans hv;have hne:b≠rb:=by omega
  have i0:(0:Int)<=(p:Int):=by omega
  have i1:(p:Int)<(n:Int):=by omega
  have HB:Hid (Ai w rb (.cells #[.slice (some ⟨b,off,none⟩) n cap,.int .i64 p] 71)):=hB;have HBY:Hid (BytesAt w0 (some ⟨b,off,none⟩) n):=by';clear hc hv hB by';go_enter func59,ntmps59
  go_wp2_with fail
  go_region_held3(fun w'=>w'.cell? ⟨rb,0,none⟩=some (.slice (some ⟨b,off,none⟩) n cap)/\w'.cell? ⟨rb,1,none⟩=some (.int .i64 p)) (go_keep) (fail)
  go_wp2_with fail
  have B2:Ai (w.setCell ⟨rb,1,none⟩ (.int .i64 ((p:Int)+1))).drew rb (.cells #[.slice (some ⟨b,off,none⟩) n cap,.int .i64 ((p:Int)+1)] 71):=HB.out.set1 _;have g2:w.grownBy (w.setCell ⟨rb,1,none⟩ (.int .i64 ((p:Int)+1))).drew (some rb):=BH (Ck (Bs _ _) _ _) (Lh _ _);generalize (w.setCell ⟨rb,1,none⟩ (.int .i64 ((p:Int)+1))).drew=W2 at *;have r2:W2.cell? ⟨b,off+p,none⟩=some (.int .u8 v):=(Df g2 (Nat.lt_of_lt_of_le hlt E.size) hne).trans r1;obtain⟨y1,y2⟩:=B2.two;have w1:IntKind.i64.wrap ((p:Int)+1-1)=(p:Int):=by rw[IntKind.wrap_i64];omega
  have w2:IntKind.i64.wrap (p:Int)=(p:Int):=by rw[IntKind.wrap_i64];omega
  clear x1 x2 f1 r1;go_region_held3(fun w'=>w'.cell? ⟨rb,0,none⟩=some (.slice (some ⟨b,off,none⟩) n cap)/\w'.cell? ⟨rb,1,none⟩=some (.int .i64 ((p:Int)+1))/\w'.cell? ⟨b,off+p,none⟩=some (.int .u8 v)) (go_keep) (fail)
  go_wp2;go_ret;refine⟨_,rfl,?_,?_,Rd.drew ⟨E.grown g2 E.size (fun j e=>by cases e;exact le),le,HBY,hn,p+1,by omega,by simpa using B2⟩,BH g2 (Lh _ _)⟩
  ·rw[IntKind.wrap_i64];omega
  ·rw[IntKind.wrap_i64];omega
 ·have e:p=n:=by omega
  subst e;have HB:Hid (Ai w rb (.cells #[.slice a p cap,.int .i64 p] 71)):=hB;have HBY:Hid (BytesAt w0 a p):=by';clear hB by';go_enter func59,ntmps59
  go_wp2_with fail
  go_region_held3(fun w'=>w'.cell? ⟨rb,0,none⟩=some (.slice a p cap)/\w'.cell? ⟨rb,1,none⟩=some (.int .i64 p)) (go_keep) (fail)
  go_wp2;go_ret;exact⟨0,rfl,by omega,by omega,Rd.drew ⟨E,le,HBY,hn,p,hp,HB⟩,Lh _ _⟩
theorem Ax(w0:World)(rb:Nat)(a:Option Addr)(n cap:Nat)(m:Nat)(w:World)(hm:m<=65536)(h:Rd w0 w rb a n cap):
 Calls prog 33 #[.pointer rb,.int .i64 m] w fun e w'=>∃x:Nat,e= .returned (.int .i64 x)/\x<m+1/\(1<=m->x<m)/\Rd w0 w' rb a n cap/\w.grownBy w' (some rb):=by
 have HR:Hid (Rd w0 w rb a n cap):=h;clear h;by_cases t:m<=1
 ·have t':(m:Int)<=1:=by omega
  go_enter func33,ntmps33
  go_wp2;go_ret;exact⟨0,rfl,by omega,by omega,HR,Bs _ _⟩
 ·have t':¬(m:Int)<=1:=by omega
  have m0:(m:Int)≠0:=by omega
  by_cases t2:m<=256
  ·have t2':(m:Int)<=256:=(by omega);go_enter func33,ntmps33
   go_wp2_with fail
   refine(Hv w0 rb a n cap _ HR).mono ?_;rintro e w1 ⟨x,rfl,x0,x1,R1,g1⟩;obtain⟨y,rfl⟩:∃y:Nat,x=y:=⟨x.toNat,by omega⟩;have HR1:Hid (Rd w0 w1 rb a n cap):=R1;clear R1;go_wp2;go_ret;refine⟨y%m,GI ?_,?_,fun _=>Nat.mod_lt _ (by omega),HR1,g1⟩
   ·simp
   ·have:=Nat.mod_lt y (show 0<m by omega);omega
  ·have t2':¬(m:Int)<=256:=(by omega);go_enter func33,ntmps33
   go_wp2_with fail
   refine(Hv w0 rb a n cap _ HR).mono ?_;rintro e w1 ⟨x,rfl,x0,x1,R1,g1⟩;obtain⟨y,rfl⟩:∃y:Nat,x=y:=⟨x.toNat,by omega⟩;have wy:IntKind.i64.wrap ((y:Int)*256)=(y:Int)*256:=(by rw[IntKind.wrap_i64];omega);have HR1:Hid (Rd w0 w1 rb a n cap):=R1;clear R1;go_wp2_with fail
   refine(Hv w0 rb a n cap _ HR1).mono ?_;rintro e w2 ⟨x,rfl,x2,x3,R2,g2⟩;obtain⟨z,rfl⟩:∃z:Nat,x=z:=⟨x.toNat,by omega⟩;have wz:IntKind.i64.wrap ((y:Int)*256+(z:Int))=(y:Int)*256+(z:Int):=(by rw[IntKind.wrap_i64];omega);have yz:(0:Int)<=(y:Int)*256+(z:Int):=(by omega);have HR2:Hid (Rd w0 w2 rb a n cap):=R2;clear R2;go_wp2;go_ret;refine⟨(y*256+z)%m,GI ?_,?_,fun _=>Nat.mod_lt _ (by omega),HR2,BH g1 g2⟩
   ·simp
   ·have:=Nat.mod_lt (y*256+z) (show 0<m by omega);omega
theorem D4(w0:World)(rb:Nat)(a:Option Addr)(n cap:Nat)(m:Nat)(w:World)(hm:m<=65536)(h:Rd w0 w rb a n cap):
 Calls prog 61 #[.pointer rb,.int .i64 m] w fun e w'=>∃t:Bool,e= .returned (.bool t)/\Rd w0 w' rb a n cap/\w.grownBy w' (some rb):=by
 have HR:Hid (Rd w0 w rb a n cap):=h;clear h;go_enter func61,ntmps61
 go_wp2_with fail
 refine(Ax w0 rb a n cap m _ hm HR).mono ?_;rintro e w1 ⟨x,rfl,_,_,R1,g1⟩;have HR1:Hid (Rd w0 w1 rb a n cap):=R1;have wm:IntKind.i64.wrap ((m:Int)-1)=(m:Int)-1:=by rw[IntKind.wrap_i64];omega
 clear R1;go_wp2;go_ret;exact⟨_,rfl,HR1,g1⟩
theorem TJ(w0:World)(rb:Nat)(a:Option Addr)(n cap:Nat)(w:World)(h:Rd w0 w rb a n cap):
 Calls prog 92 #[.pointer rb] w fun e w'=>∃x:Int,e= .returned (.int .u64 x)/\Rd w0 w' rb a n cap/\w.grownBy w' (some rb):=by
 have HR:Hid (Rd w0 w rb a n cap):=h;clear h;go_enter func92,ntmps92
 go_wp2;go_loopw [3,4] (fun v i wr=>∃(k:Nat) (x:Int),k<=8/\i= .int .i64 k/\v= .int .u64 x/\Rd w0 wr rb a n cap/\w.grownBy wr (some rb)) (fun _ i _=>8-(intOf i).toNat)
 case atStart=>exact⟨0,0,by omega,rfl,rfl,HR,Bs _ _⟩
 case round=>
  obtain⟨k,x,hk,rfl,rfl,R1,g1⟩:=hrel;have HR1:Hid (Rd w0 wr rb a n cap):=R1;clear R1;by_cases t:k<8
  ·have t':(k:Int)<8:=(by omega);go_wp2_with fail
   refine(Hv w0 rb a n cap _ HR1).mono ?_;rintro e w2 ⟨y,rfl,y0,y1,R2,g2⟩;have HR2:Hid (Rd w0 w2 rb a n cap):=R2;clear R2;go_wp2;go_roundw;case rel=>exact⟨k+1,_,by omega,by go_num,rfl,HR2,BH g1 g2⟩
   case measure=>simp[intOf];omega
  ·have t':¬(k:Int)<8:=(by omega);go_wp2;go_ret;exact⟨⟨x,rfl⟩,HR1,g1⟩
theorem YD(w0:World)(rb:Nat)(a:Option Addr)(n cap:Nat)(lo hi:Nat)(w:World)(hl:lo<=hi)(hh:hi<=1000)(h:Rd w0 w rb a n cap):
 Calls prog 66 #[.pointer rb,.int .i64 lo,.int .i64 hi] w fun e w'=>∃x:Int,e= .returned (.int .i64 x)/\Rd w0 w' rb a n cap/\w.grownBy w' (some rb):=by
 have HR:Hid (Rd w0 w rb a n cap):=h;clear h;have w1:IntKind.i64.wrap ((hi:Int)-lo)=(hi:Int)-lo:=by rw[IntKind.wrap_i64];omega
 have w2:IntKind.i64.wrap ((hi:Int)-lo+1)=(hi:Int)-lo+1:=by rw[IntKind.wrap_i64];omega
 have nl:¬(hi:Int)<(lo:Int):=by omega
 go_enter func66,ntmps66
 go_wp2_with fail
 refine(Ax w0 rb a n cap 8 _ (by omega) HR).mono ?_;rintro e u1 ⟨x,rfl,_,x8,R1,g1⟩;have HR1:Hid (Rd w0 u1 rb a n cap):=R1;clear R1;by_cases t0:x=0
 ·subst t0;go_wp2;go_ret;exact⟨_,rfl,HR1,g1⟩
 ·by_cases t1:x=1
  ·subst t1;go_wp2;go_ret;exact⟨_,rfl,HR1,g1⟩
  ·have t0':((x:Int)==0)=false:=(by simpa using t0);have t1':((x:Int)==1)=false:=(by simp;omega);go_wp2_with fail
   refine(TJ w0 rb a n cap _ HR1).mono ?_;rintro e u2 ⟨y,rfl,R2,g2⟩;have HR2:Hid (Rd w0 u2 rb a n cap):=R2;clear R2;have m1:IntKind.u64.wrap ((hi:Int)-lo+1)=(hi:Int)-lo+1:=(by rw[IntKind.wrap_u64];omega);have m0:¬((hi:Int)-lo+1)=0:=(by omega);go_wp2;go_ret;exact⟨_,rfl,HR2,BH g1 g2⟩
theorem aN(w0:World)(rb:Nat)(a:Option Addr)(n cap:Nat)(lo hi:Nat)(w:World)(hl:lo<=hi)(hh:hi<=1000)(h:Rd w0 w rb a n cap):
 Calls prog 36 #[.pointer rb,.int .i64 lo,.int .i64 hi] w fun e w'=>∃x:Int,e= .returned (.int .i64 x)/\Rd w0 w' rb a n cap/\w.grownBy w' (some rb):=by
 have HR:Hid (Rd w0 w rb a n cap):=h;clear h;have w1:IntKind.i64.wrap ((lo:Int)-1)=(lo:Int)-1:=by rw[IntKind.wrap_i64];omega
 have w2:IntKind.i64.wrap ((hi:Int)+1)=(hi:Int)+1:=by rw[IntKind.wrap_i64];omega
 go_enter func36,ntmps36
 go_wp2_with fail
 refine(D4 w0 rb a n cap 24 _ (by omega) HR).mono ?_;rintro e u1 ⟨t,rfl,R1,g1⟩;have HR1:Hid (Rd w0 u1 rb a n cap):=R1;clear R1;cases t with
 |true=>
  go_wp2_with fail
  have lr:=HR1.out.lt;refine(Ax w0 rb a n cap 4 _ (by omega) (HR1.out.below (CY _ _))).mono ?_;rintro e u2 ⟨x,rfl,_,x4,R2,g2⟩;have x4':=x4 (by omega);have HR2:Hid (Rd w0 u2 rb a n cap):=R2;have gN:w.grownBy u2 (some rb):=BH (Da g1 (World.grownBy_alloc u1 _ none) (fun j e=>by cases e)) g2;have Bk:Ai u2 u1 (.cells #[.int .i64 ((lo:Int)-1),.int .i64 ((hi:Int)+1),.int .i64 (-9223372036854775808),.int .i64 9223372036854775807] 2):=(Ai.new u1 _).grown g2 (by simp;omega);unfold Ai at Bk;have c0:u2.cell? ⟨u1,0,none⟩=some (.int .i64 ((lo:Int)-1)):=by simp[World.cell?,Bk]
  have c1:u2.cell? ⟨u1,1,none⟩=some (.int .i64 ((hi:Int)+1)):=by simp[World.cell?,Bk]
  have c2:u2.cell? ⟨u1,2,none⟩=some (.int .i64 (-9223372036854775808)):=by simp[World.cell?,Bk]
  have c3:u2.cell? ⟨u1,3,none⟩=some (.int .i64 9223372036854775807):=by simp[World.cell?,Bk]
  clear R2 x4 Bk g2;have hx:x=0∨x=1∨x=2∨x=3:=by omega
  rcases hx with rfl|rfl|rfl|rfl;all_goals
   clear x4';go_wp2;go_ret;exact⟨_,rfl,HR2,gN⟩
 |false=>
  go_wp2_with fail
  refine(YD w0 rb a n cap lo hi _ hl hh HR1).mono ?_;rintro e u2 ⟨x,rfl,R2,g2⟩;have HR2:Hid (Rd w0 u2 rb a n cap):=R2;clear R2;go_wp2;go_ret;exact⟨_,rfl,HR2,BH g1 g2⟩
open Go
section
variable {P:Program}{ops:Array Oper}{Q:Exit->Act->World->Prop}{md:Region.Mode}{S:World->Prop}{n:Nat}
def BZ(P:Program)(md:Region.Mode)(ops:Array Oper)(Q:Exit->Act->World->Prop)(S:World->Prop)(n:Nat)(f:Nat)(L:Array Bool)(a:Act)(w:World):Prop:=
 match f with
 |0=>Region.ready md ops L=[]/\Q .normal a w
 |f+1=>(Region.ready md ops L=[]->Q .normal a w)/\
  ∀i∈Region.ready md ops L,wpOp P ops Q i (fun a' w'=>(i≠n->S w')/\BZ P md ops Q S n f (L.setIfInBounds i true) a' w') a w
theorem BZ.any{f:Nat}:∀{L:Array Bool}{a:Act}{w:World},BZ P md ops Q S n f L a w->wpAny P md ops Q f L a w:=by
 induction f with
 |zero=>intro L a w h;exact h
 |succ f ih=>intro L a w h;exact⟨h.1,fun i hi=>wpOp_mono (fun _ _ k=>ih k.2) (h.2 i hi)⟩
theorem N7{i:Nat}{L:Array Bool}(h:i∈Region.ready md ops L):L.getD i false=false:=by
 have h0:=(mem_ready.1 h).1;by_cases hl:i<L.size
 ·simp[hl]at h0 ⊢;exact h0
 ·simp[Array.getElem?_eq_none (Nat.le_of_not_lt hl)]
theorem BZ.takes{i:Nat}{oi:Oper}{v:Value}(hi:ops[i]? =some oi)(hs:Region.noSelect ops=true)
 (hwait:∀o,ops[n]? =some o->∃e∈o.after,Region.binds md e=true/\e.on=i)
 (hQ:∀c a w,Q (.panic c) (a.put oi.dst v) w->Q (.panic c) a w)(f:Nat):∀{L:Array Bool}{a:Act}{w:World},
 (∀j oj,ops[j]? =some oj->j≠i->L.getD j true=false->(∀e∈oj.after,Region.binds md e=true->e.on≠i)->oi.apart ops oj=true)->
 i∈Region.ready md ops L->YieldsIf P ops S oi v a->S w->BZ P md ops Q S n f (L.setIfInBounds i true) (a.put oi.dst v) w->BZ P md ops Q S n (f+1) L a w:=by
 have sel:=Region.noSelect_spec hs;induction f with
 |zero=>
  intro L a w _ hr hy hS H;refine⟨fun e=>absurd hr (by rw[e];simp),fun j hj=>?_⟩;by_cases e:j=i
  ·subst e;exact hy.wpOp hi hS ⟨fun _=>hS,H⟩
  ·have:=ready_mono hj e;rw[H.1]at this;simp at this
 |succ f ih=>
  intro L a w hfree hr hy hS H;refine⟨fun e=>absurd hr (by rw[e];simp),fun j hj=>?_⟩;by_cases e:j=i
  ·subst e;exact hy.wpOp hi hS ⟨fun _=>hS,H⟩
  ·obtain⟨hun,oj,hoj,hall⟩:=mem_ready.1 hj;have un:=N7 hr;have apart:∀x∈oj.after,Region.binds md x=true->x.on≠i:=fun x hx hb hq=>by
    have:=hall x hx hb;rw[hq,un]at this;cases this
   have hjn:j≠n:=fun hq=>by
    obtain⟨x,hx,hb,ho⟩:=hwait oj (by rw[<-hq];exact hoj);exact apart x hx hb ho
   refine wpOp_mono (fun a' w' k=>⟨fun _=>k.2.1 hjn,?_⟩) (wpOp_putIf hoj (hfree j oj hoj e hun apart) (fun cs b=>sel i oi cs b hi) (fun cs b=>sel j oj cs b hoj) hQ hy (H.2 j (ready_mono hj e)));refine ih (fun k ok hk hki hkl hkn=>hfree k ok hk hki ?_ hkn) (ready_mono hr (Ne.symm e)) k.1 (k.2.1 hjn) ?_
   ·by_cases q:j=k
    ·subst q;exact hun
    ·rw[getD_set_ne true q]at hkl;exact hkl
   ·rw[Array.setIfInBounds_comm _ _ e];exact k.2.2
def VN(md:Region.Mode)(ops:Array Oper)(n i:Nat):Bool:=match ops[n]? with
 |some o=>o.after.any (fun e=>Region.binds md e&&e.on==i)
 |none=>true
theorem Xu{i:Nat}(h:VN md ops n i=true):∀o,ops[n]? =some o->∃e∈o.after,Region.binds md e=true/\e.on=i:=fun o ho=>by
 unfold VN at h;rw[ho]at h;dsimp only at h;obtain⟨e,he,hb⟩:=Array.any_eq_true'.1 h;simp only[Bool.and_eq_true,beq_iff_eq]at hb;exact⟨e,he,hb⟩
theorem BZ.take{i:Nat}{oi:Oper}(v:Value){f:Nat}{L:Array Bool}{a:Act}{w:World}(hi:ops[i]? =some oi)(hs:Region.noSelect ops=true)(hf:Region.free md ops L i=true)
 (hr:(Region.ready md ops L).contains i=true)(hw:VN md ops n i=true)(hQ:∀c a w,Q (.panic c) (a.put oi.dst v) w->Q (.panic c) a w)(hS:S w)
 (hy:YieldsIf P ops S oi v a)(h:BZ P md ops Q S n f (L.setIfInBounds i true) (a.put oi.dst v) w):BZ P md ops Q S n (f+1) L a w:=
 BZ.takes hi hs (Xu hw) hQ f (Region.free_spec hi hf) (by simpa using hr) hy hS h
theorem BZ.one{i:Nat}{o:Oper}{f:Nat}{L:Array Bool}{a:Act}{w:World}(hi:ops[i]? =some o)(hr:Region.ready md ops L=[i])
 (h:∀K':Act->World->Prop,Hid (∀a w,(i≠n->S w)->BZ P md ops Q S n f (L.setIfInBounds i true) a w->K' a w)->if Region.wanted o (yielded ops a.tmps)=true then Oper.wp P o a w K' Q else K' (a.put o.dst undef) w):BZ P md ops Q S n (f+1) L a w:=
 ⟨fun e=>absurd (hr.symm.trans e) (by simp),fun j hj=>by
   rw[hr]at hj;obtain rfl:j=i:=by simpa using hj
   exact wpOp_step hi (fun K' hK=>h K' (fun a w h1 h2=>hK a w ⟨h1,h2⟩))⟩
theorem BZ.done{f:Nat}{L:Array Bool}{a:Act}{w:World}(hr:Region.ready md ops L=[])(h:Q .normal a w):BZ P md ops Q S n f L a w:=by
 cases f with
 |zero=>exact⟨hr,h⟩
 |succ f=>exact⟨fun _=>h,fun i hi=>by rw[hr]at hi;simp at hi⟩
theorem BZ.region{id:Nat}{a:Act}{w:World}(S:World->Prop)(n:Nat)(hm:P.follows .mixedOrders=true)(h:BZ P .any ops Q S n ops.size (Array.replicate ops.size false) a w.drew):(Code.region id ops true).wp P Q a w:=
 wp_region_any hm h.any
end
theorem Wj(base:Int)(f g:Nat->Int)(cat level:Int)(k:Nat):(FZ base f g cat level k).1.length<=k+(FZ base f g cat level k).2.toNat:=by
 induction k with
 |zero=>simp[FZ]
 |succ k ih=>
  generalize hR:FZ base f g cat level k=r at ih;obtain⟨l,d⟩:=r;rw[PM hR];dsimp only at ih ⊢;have h2:(IQ l d cat level (f k)).1.length<=k+(IQ l d cat level (f k)).2.toNat:=by
   unfold IQ;cases d with
   |true=>simpa using ih
   |false=>
    split
    ·simp only[List.length_append,List.length_singleton,Bool.toNat_true];simp only[Bool.toNat_false]at ih;omega
    ·exact ih
  split
  ·omega
  ·rw[List.length_append];show _+1<=_;omega
theorem Es(base:Int)(n:Nat)(f g:Nat->Int)(cat level:Int):(Et base n f g cat level).length<=n+1:=by
 have:=Wj base f g cat level n;unfold Et;dsimp only;generalize FZ base f g cat level n=r at this;obtain⟨l,d⟩:=r;cases d with
 |true=>simpa using this
 |false=>
  simp only[Bool.toNat_false]at this;simp only[Bool.false_eq_true,if_false,List.length_append,List.length_singleton];omega
structure Tg(w0 w W:World)(rb:Nat)(a:Option Addr)(n cap:Nat)(Z:Nat)(base:Int)(va:Option Addr)(vc:Nat)(l:List (Int×Int)):Prop where
 z:Ai W Z (.cells #[.int .i64 base,.slice va l.length vc] 44)
 r:Rd w0 W rb a n cap
 o:An W (Z+1) (.slice va l.length vc) l
 g:w.grownBy W (some rb)
section
variable {w0 w W W':World}{rb:Nat}{a:Option Addr}{n cap Z:Nat}{base:Int}{va:Option Addr}{vc:Nat}{l:List (Int×Int)}
theorem Tg.below(h:Tg w0 w W rb a n cap Z base va vc l)(hb:Below W W W'):Tg w0 w W' rb a n cap Z base va vc l:=
 ⟨h.z.below hb,h.r.below hb,An.below h.o hb,Kc h.g hb⟩
theorem Tg.call(h:Tg w0 w W rb a n cap Z base va vc l)(hz:rb<Z)(r:Rd w0 W' rb a n cap)(hg:W.grownBy W' (some rb)):Tg w0 w W' rb a n cap Z base va vc l:=
 ⟨h.z.grown hg (by simp;omega),r,World.ownsRow.kept h.o hg (Or.inr (fun e=>by have:=(World.ownsRow.lt h.o _ e).1;omega)),BH h.g hg⟩
theorem DY{x y:World}{P Z:Nat}(h:x.grownBy y (some P))(hz:x.heap.size<=Z)(i:Nat)(v:Value):x.grownBy (y.setCell ⟨Z,i,none⟩ v) (some P):=
 ⟨h.os,h.tape,h.output,by rw[nblk_setCell];exact h.size,fun j hj hne=>(blk_setCell_other _ _ _ _ (by dsimp only;omega)).trans (h.block j hj hne)⟩
theorem Rd.set(h:Rd w0 W rb a n cap)(hz:rb<Z)(i:Nat)(v:Value):Rd w0 (W.setCell ⟨Z,i,none⟩ v) rb a n cap:=by
 obtain⟨E,le,by',hn,p,hp,hB⟩:=h;exact⟨E.setCell (by dsimp only;omega) _,le,by',hn,p,hp,(blk_setCell_other _ _ _ _ (by dsimp only;omega)).trans hB⟩
theorem Tg.put{l':List (Int×Int)}{ua:Option Addr}{uc:Nat}(h:Tg w0 w W rb a n cap Z base va vc l)(hz:rb<Z)(hw:w.heap.size<=Z)(o':An W (Z+1) (.slice ua l'.length uc) l'):
 Tg w0 w ((W.setCell ⟨Z,0,none⟩ (.int .i64 base)).setCell ⟨Z,1,none⟩ (.slice ua l'.length uc)) rb a n cap Z base ua uc l':=
 ⟨(h.z.set0 _).set1 _,(h.r.set hz _ _).set hz _ _,An.set (An.set o' (by omega) _ _) (by omega) _ _,DY (DY h.g hw _ _) hw _ _⟩
theorem Tg.put0(h:Tg w0 w W rb a n cap Z base va vc l)(hz:rb<Z)(hw:w.heap.size<=Z)(b':Int):
 Tg w0 w (W.setCell ⟨Z,0,none⟩ (.int .i64 b')) rb a n cap Z b' va vc l:=
 ⟨h.z.set0 _,h.r.set hz _ _,An.set h.o (by omega) _ _,DY h.g hw _ _⟩
theorem Tg.frame{row:Option Nat}(h:Tg w0 w W rb a n cap Z base va vc l)(hz:rb<Z)(hw:w.heap.size<=Z)(hg:W.grownBy W' row)(hr:∀j,row=some j->Z+1<=j):
 Ai W' Z (.cells #[.int .i64 base,.slice va l.length vc] 44)/\Rd w0 W' rb a n cap/\w.grownBy W' (some rb):=by
 refine⟨h.z.grown hg (fun e=>by have:=hr Z e.symm;omega),?_,Da h.g hg (fun j e=>by have:=hr j e;omega)⟩;obtain⟨E,le,by',hn,p,hp,hB⟩:=h.r;exact⟨E.grown hg E.size (fun j e=>by have:=hr j e;omega),le,by',hn,p,hp,hB.grown hg (fun e=>by have:=hr rb e.symm;omega)⟩
end
def JJ(x:Nat):Int:=if x=0 then 1001 else if x=1 then 2001 else if x=2 then 3001 else 5
theorem JV{W:World}{q:Nat}(h:Ai W q (.cells #[.int .i64 1001,.int .i64 2001,.int .i64 3001,.int .i64 5] 2)){x:Nat}(hx:x<4):W.cell? ⟨q,x,none⟩=some (.int .i64 (JJ x)):=by
 unfold Ai at h;have:x=0∨x=1∨x=2∨x=3:=by omega
 rcases this with rfl|rfl|rfl|rfl<;>simp[World.cell?,h,JJ]
section
variable {P:Program}{ops:Array Oper}{Q:Exit->Act->World->Prop}{md:Region.Mode}{S:World->Prop}{n:Nat}
theorem BZ.two{i j:Nat}{oi oj:Oper}{f:Nat}{L:Array Bool}{a:Act}{w:World}(hi:ops[i]? =some oi)(hj:ops[j]? =some oj)(hr:Region.ready md ops L=[i,j])
 (h1:∀K':Act->World->Prop,Hid (∀a w,(i≠n->S w)->BZ P md ops Q S n f (L.setIfInBounds i true) a w->K' a w)->if Region.wanted oi (yielded ops a.tmps)=true then Oper.wp P oi a w K' Q else K' (a.put oi.dst undef) w)
 (h2:∀K':Act->World->Prop,Hid (∀a w,(j≠n->S w)->BZ P md ops Q S n f (L.setIfInBounds j true) a w->K' a w)->if Region.wanted oj (yielded ops a.tmps)=true then Oper.wp P oj a w K' Q else K' (a.put oj.dst undef) w):BZ P md ops Q S n (f+1) L a w:=
 ⟨fun e=>absurd (hr.symm.trans e) (by simp),fun k hk=>by
   rw[hr]at hk;have:k=i∨k=j:=(by simpa using hk);rcases this with rfl|rfl
   ·exact wpOp_step hi (fun K' hK=>h1 K' (fun a w q1 q2=>hK a w ⟨q1,q2⟩))
   ·exact wpOp_step hj (fun K' hK=>h2 K' (fun a w q1 q2=>hK a w ⟨q1,q2⟩))⟩
end
end Go.Proofs.YtblapfnglojgjaaGreatDoor
