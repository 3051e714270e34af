import Derived.Deep.RegionHeld
import Derived.Test.YtefoofaocbjdoaaGreatDoorZ17s
set_option maxRecDepth 100000
set_option maxHeartbeats 8000000
namespace Go.Proofs.YtefoofaocbjdoaaGreatDoor
open Go.RowKit Go.Deep Go.Maps Go.Proofs.Tryz
variable {w0 w w':World}{rb n cap P:Nat}{a:Option Addr}
def BytesAt(w:World)(a:Option Addr)(n:Nat):Prop:=
 0<n->∃b off,a=some ⟨b,off,none⟩/\b<w.heap.size/\∀i,i<n->∃v:Int,w.cell? ⟨b,off+i,none⟩=some (.int .u8 v)/\0<=v/\v<256
structure Rd(w0 w:World)(rb:Nat)(a:Option Addr)(n cap:Nat):Prop where
 E:Below w0 w0 w
 le:w0.heap.size<=rb
 bytes:BytesAt w0 a n
 hn:n<=1048576
 at':∃p:Nat,p<=n/\Ah w rb (.cells #[.slice a n cap,.int .i64 p] 75)
theorem Rd.below(h:Rd w0 w rb a n cap)(hb:Below w w w'):Rd w0 w' rb a n cap:=by
 obtain⟨E,le,by',hn,p,hp,hB⟩:=h;exact⟨E.trans (hb.mono E.size),le,by',hn,p,hp,hB.below hb⟩
theorem Rd.other(h:Rd w0 w rb a n cap)(hg:w.grownBy w' (some P))(hP:w0.heap.size<=P)(hne:rb≠P):Rd w0 w' rb a n cap:=by
 obtain⟨E,le,by',hn,p,hp,hB⟩:=h;exact⟨E.grown hg E.size (fun j e=>by cases e;exact hP),le,by',hn,p,hp,hB.grown hg (by simpa using hne)⟩
theorem Rd.drew(h:Rd w0 w rb a n cap):Rd w0 w.drew rb a n cap:=h.below (Below.refl _ _).drew
theorem Rd.lt(h:Rd w0 w rb a n cap):rb<w.heap.size:=by
 obtain⟨_,_,_,_,p,_,hB⟩:=h;exact hB.lt
theorem CG{a b c:World}(h:a.grownBy b (some P))(k:b.grownBy c (some P)):a.grownBy c (some P):=
 ⟨k.os.trans h.os,k.tape.trans h.tape,k.output.trans h.output,Nat.le_trans h.size k.size,fun j hj hne=>(k.block j (Nat.lt_of_lt_of_le hj h.size) hne).trans (h.block j hj hne)⟩
theorem JY(w:World)(P:Nat):w.grownBy w.drew (some P):=⟨rfl,rfl,rfl,Nat.le_refl _,fun _ _ _=>rfl⟩
theorem Km(w0:World)(rb:Nat)(a:Option Addr)(n cap:Nat)(w:World)(h:Rd w0 w rb a n cap):
 Calls prog 69 #[.pointer rb] w fun e w'=>∃x:Int,e= .returned (.int .i64 x)/\0<=x/\x<256/\Rd w0 w' rb a n cap/\w.grownBy w' (some rb):=by
 obtain⟨E,le,by',hn,p,hp,hB⟩:=h;obtain⟨x1,x2⟩:=hB.two;have f1:=hB.jQ 1;by_cases t:p<n
 ·obtain⟨b,off,rfl,hlt,hc⟩:=by' (by omega);obtain⟨v,hv,v0,v1⟩:=hc p t;have r1:w.cell? ⟨b,off+p,none⟩=some (.int .u8 v):=(E.cell (p:=⟨b,off+p,none⟩) hlt).trans hv;have hne:b≠rb:=by omega
  have i0:(0:Int)<=(p:Int):=by omega
  have i1:(p:Int)<(n:Int):=by omega
  have HB:Hid (Ah w rb (.cells #[.slice (some ⟨b,off,none⟩) n cap,.int .i64 p] 75)):=hB;have HBY:Hid (BytesAt w0 (some ⟨b,off,none⟩) n):=by';clear hc hv hB by';go_enter func69,ntmps69
  go_wp2_with fail
  go_region_held3(fun w'=>w'.cell? ⟨rb,0,none⟩=some (.slice (some ⟨b,off,none⟩) n cap)/\w'.cell? ⟨rb,1,none⟩=some (.int .i64 p)) (go_keep) (fail)
  go_wp2_with fail
  have B2:Ah (w.setCell ⟨rb,1,none⟩ (.int .i64 ((p:Int)+1))).drew rb (.cells #[.slice (some ⟨b,off,none⟩) n cap,.int .i64 ((p:Int)+1)] 75):=HB.out.set1 _;have g2:w.grownBy (w.setCell ⟨rb,1,none⟩ (.int .i64 ((p:Int)+1))).drew (some rb):=CG (DG (Cr _ _) _ _) (JY _ _);generalize (w.setCell ⟨rb,1,none⟩ (.int .i64 ((p:Int)+1))).drew=W2 at *;have r2:W2.cell? ⟨b,off+p,none⟩=some (.int .u8 v):=(Ci g2 (Nat.lt_of_lt_of_le hlt E.size) hne).trans r1;obtain⟨y1,y2⟩:=B2.two;have w1:IntKind.i64.wrap ((p:Int)+1-1)=(p:Int):=by rw[IntKind.wrap_i64];omega
  have w2:IntKind.i64.wrap (p:Int)=(p:Int):=by rw[IntKind.wrap_i64];omega
  clear x1 x2 f1 r1;go_region_held3(fun w'=>w'.cell? ⟨rb,0,none⟩=some (.slice (some ⟨b,off,none⟩) n cap)/\w'.cell? ⟨rb,1,none⟩=some (.int .i64 ((p:Int)+1))/\w'.cell? ⟨b,off+p,none⟩=some (.int .u8 v)) (go_keep) (fail)
  go_wp2;go_ret;refine⟨_,rfl,?_,?_,Rd.drew ⟨E.grown g2 E.size (fun j e=>by cases e;exact le),le,HBY,hn,p+1,by omega,by simpa using B2⟩,CG g2 (JY _ _)⟩
  ·rw[IntKind.wrap_i64];omega
  ·rw[IntKind.wrap_i64];omega
 ·have e:p=n:=by omega
  subst e;have HB:Hid (Ah w rb (.cells #[.slice a p cap,.int .i64 p] 75)):=hB;have HBY:Hid (BytesAt w0 a p):=by';clear hB by';go_enter func69,ntmps69
  go_wp2_with fail
  go_region_held3(fun w'=>w'.cell? ⟨rb,0,none⟩=some (.slice a p cap)/\w'.cell? ⟨rb,1,none⟩=some (.int .i64 p)) (go_keep) (fail)
  go_wp2;go_ret;exact⟨0,rfl,by omega,by omega,Rd.drew ⟨E,le,HBY,hn,p,hp,HB⟩,JY _ _⟩
theorem AH(w0:World)(rb:Nat)(a:Option Addr)(n cap:Nat)(m:Nat)(w:World)(hm:m<=65536)(h:Rd w0 w rb a n cap):
 Calls prog 34 #[.pointer rb,.int .i64 m] w fun e w'=>∃x:Nat,e= .returned (.int .i64 x)/\x<m+1/\(1<=m->x<m)/\Rd w0 w' rb a n cap/\w.grownBy w' (some rb):=by
 have HR:Hid (Rd w0 w rb a n cap):=h;clear h;by_cases t:m<=1
 ·have t':(m:Int)<=1:=by omega
  go_enter func34,ntmps34
  go_wp2;go_ret;exact⟨0,rfl,by omega,by omega,HR,Cr _ _⟩
 ·have t':¬(m:Int)<=1:=by omega
  have m0:(m:Int)≠0:=by omega
  by_cases t2:m<=256
  ·have t2':(m:Int)<=256:=(by omega);go_enter func34,ntmps34
   go_wp2_with fail
   refine(Km w0 rb a n cap _ HR).mono ?_;rintro e w1 ⟨x,rfl,x0,x1,R1,g1⟩;obtain⟨y,rfl⟩:∃y:Nat,x=y:=⟨x.toNat,by omega⟩;have HR1:Hid (Rd w0 w1 rb a n cap):=R1;clear R1;go_wp2;go_ret;refine⟨y%m,Fa ?_,?_,fun _=>Nat.mod_lt _ (by omega),HR1,g1⟩
   ·simp
   ·have:=Nat.mod_lt y (show 0<m by omega);omega
  ·have t2':¬(m:Int)<=256:=(by omega);go_enter func34,ntmps34
   go_wp2_with fail
   refine(Km w0 rb a n cap _ HR).mono ?_;rintro e w1 ⟨x,rfl,x0,x1,R1,g1⟩;obtain⟨y,rfl⟩:∃y:Nat,x=y:=⟨x.toNat,by omega⟩;have wy:IntKind.i64.wrap ((y:Int)*256)=(y:Int)*256:=(by rw[IntKind.wrap_i64];omega);have HR1:Hid (Rd w0 w1 rb a n cap):=R1;clear R1;go_wp2_with fail
   refine(Km w0 rb a n cap _ HR1).mono ?_;rintro e w2 ⟨x,rfl,x2,x3,R2,g2⟩;obtain⟨z,rfl⟩:∃z:Nat,x=z:=⟨x.toNat,by omega⟩;have wz:IntKind.i64.wrap ((y:Int)*256+(z:Int))=(y:Int)*256+(z:Int):=(by rw[IntKind.wrap_i64];omega);have yz:(0:Int)<=(y:Int)*256+(z:Int):=(by omega);have HR2:Hid (Rd w0 w2 rb a n cap):=R2;clear R2;go_wp2;go_ret;refine⟨(y*256+z)%m,Fa ?_,?_,fun _=>Nat.mod_lt _ (by omega),HR2,CG g1 g2⟩
   ·simp
   ·have:=Nat.mod_lt (y*256+z) (show 0<m by omega);omega
theorem El(w0:World)(rb:Nat)(a:Option Addr)(n cap:Nat)(m:Nat)(w:World)(hm:m<=65536)(h:Rd w0 w rb a n cap):
 Calls prog 36 #[.pointer rb,.int .i64 m] w fun e w'=>∃t:Bool,e= .returned (.bool t)/\Rd w0 w' rb a n cap/\w.grownBy w' (some rb):=by
 have HR:Hid (Rd w0 w rb a n cap):=h;clear h;go_enter func36,ntmps36
 go_wp2_with fail
 refine(AH w0 rb a n cap m _ hm HR).mono ?_;rintro e w1 ⟨x,rfl,_,_,R1,g1⟩;have HR1:Hid (Rd w0 w1 rb a n cap):=R1;have wm:IntKind.i64.wrap ((m:Int)-1)=(m:Int)-1:=by rw[IntKind.wrap_i64];omega
 clear R1;go_wp2;go_ret;exact⟨_,rfl,HR1,g1⟩
theorem SK(w0:World)(rb:Nat)(a:Option Addr)(n cap:Nat)(w:World)(h:Rd w0 w rb a n cap):
 Calls prog 104 #[.pointer rb] w fun e w'=>∃x:Int,e= .returned (.int .u64 x)/\Rd w0 w' rb a n cap/\w.grownBy w' (some rb):=by
 have HR:Hid (Rd w0 w rb a n cap):=h;clear h;go_enter func104,ntmps104
 go_wp2;go_loopw [3,4] (fun v i wr=>∃(k:Nat) (x:Int),k<=8/\i= .int .i64 k/\v= .int .u64 x/\Rd w0 wr rb a n cap/\w.grownBy wr (some rb)) (fun _ i _=>8-(intOf i).toNat)
 case atStart=>exact⟨0,0,by omega,rfl,rfl,HR,Cr _ _⟩
 case round=>
  obtain⟨k,x,hk,rfl,rfl,R1,g1⟩:=hrel;have HR1:Hid (Rd w0 wr rb a n cap):=R1;clear R1;by_cases t:k<8
  ·have t':(k:Int)<8:=(by omega);go_wp2_with fail
   refine(Km w0 rb a n cap _ HR1).mono ?_;rintro e w2 ⟨y,rfl,y0,y1,R2,g2⟩;have HR2:Hid (Rd w0 w2 rb a n cap):=R2;clear R2;go_wp2;go_roundw;case rel=>exact⟨k+1,_,by omega,by go_num,rfl,HR2,CG g1 g2⟩
   case measure=>simp[intOf];omega
  ·have t':¬(k:Int)<8:=(by omega);go_wp2;go_ret;exact⟨⟨x,rfl⟩,HR1,g1⟩
theorem Xz(w0:World)(rb:Nat)(a:Option Addr)(n cap:Nat)(lo hi:Nat)(w:World)(hl:lo<=hi)(hh:hi<=1000)(h:Rd w0 w rb a n cap):
 Calls prog 70 #[.pointer rb,.int .i64 lo,.int .i64 hi] w fun e w'=>∃x:Int,e= .returned (.int .i64 x)/\Rd w0 w' rb a n cap/\w.grownBy w' (some rb):=by
 have HR:Hid (Rd w0 w rb a n cap):=h;clear h;have w1:IntKind.i64.wrap ((hi:Int)-lo)=(hi:Int)-lo:=by rw[IntKind.wrap_i64];omega
 have w2:IntKind.i64.wrap ((hi:Int)-lo+1)=(hi:Int)-lo+1:=by rw[IntKind.wrap_i64];omega
 have nl:¬(hi:Int)<(lo:Int):=by omega
 go_enter func70,ntmps70
 go_wp2_with fail
 refine(AH w0 rb a n cap 8 _ (by omega) HR).mono ?_;rintro e u1 ⟨x,rfl,_,x8,R1,g1⟩;have HR1:Hid (Rd w0 u1 rb a n cap):=R1;clear R1;by_cases t0:x=0
 ·subst t0;go_wp2;go_ret;exact⟨_,rfl,HR1,g1⟩
 ·by_cases t1:x=1
  ·subst t1;go_wp2;go_ret;exact⟨_,rfl,HR1,g1⟩
  ·have t0':((x:Int)==0)=false:=(by simpa using t0);have t1':((x:Int)==1)=false:=(by simp;omega);go_wp2_with fail
   refine(SK w0 rb a n cap _ HR1).mono ?_;rintro e u2 ⟨y,rfl,R2,g2⟩;have HR2:Hid (Rd w0 u2 rb a n cap):=R2;clear R2;have m1:IntKind.u64.wrap ((hi:Int)-lo+1)=(hi:Int)-lo+1:=(by rw[IntKind.wrap_u64];omega);have m0:¬((hi:Int)-lo+1)=0:=(by omega);go_wp2;go_ret;exact⟨_,rfl,HR2,CG g1 g2⟩
theorem Zb(w0:World)(rb:Nat)(a:Option Addr)(n cap:Nat)(lo hi:Nat)(w:World)(hl:lo<=hi)(hh:hi<=1000)(h:Rd w0 w rb a n cap):
 Calls prog 35 #[.pointer rb,.int .i64 lo,.int .i64 hi] w fun e w'=>∃x:Int,e= .returned (.int .i64 x)/\Rd w0 w' rb a n cap/\w.grownBy w' (some rb):=by
 have HR:Hid (Rd w0 w rb a n cap):=h;clear h;have w1:IntKind.i64.wrap ((lo:Int)-1)=(lo:Int)-1:=by rw[IntKind.wrap_i64];omega
 have w2:IntKind.i64.wrap ((hi:Int)+1)=(hi:Int)+1:=by rw[IntKind.wrap_i64];omega
 go_enter func35,ntmps35
 go_wp2_with fail
 refine(El w0 rb a n cap 24 _ (by omega) HR).mono ?_;rintro e u1 ⟨t,rfl,R1,g1⟩;have HR1:Hid (Rd w0 u1 rb a n cap):=R1;clear R1;cases t with
 |true=>
  go_wp2_with fail
  have lr:=HR1.out.lt;refine(AH w0 rb a n cap 4 _ (by omega) (HR1.out.below (Be _ _))).mono ?_;rintro e u2 ⟨x,rfl,_,x4,R2,g2⟩;have x4':=x4 (by omega);have HR2:Hid (Rd w0 u2 rb a n cap):=R2;have gN:w.grownBy u2 (some rb):=CG (DV g1 (World.grownBy_alloc u1 _ none) (fun j e=>by cases e)) g2;have Bk:Ah u2 u1 (.cells #[.int .i64 ((lo:Int)-1),.int .i64 ((hi:Int)+1),.int .i64 (-9223372036854775808),.int .i64 9223372036854775807] 2):=(Ah.new u1 _).grown g2 (by simp;omega);unfold Ah at Bk;have c0:u2.cell? ⟨u1,0,none⟩=some (.int .i64 ((lo:Int)-1)):=by simp[World.cell?,Bk]
  have c1:u2.cell? ⟨u1,1,none⟩=some (.int .i64 ((hi:Int)+1)):=by simp[World.cell?,Bk]
  have c2:u2.cell? ⟨u1,2,none⟩=some (.int .i64 (-9223372036854775808)):=by simp[World.cell?,Bk]
  have c3:u2.cell? ⟨u1,3,none⟩=some (.int .i64 9223372036854775807):=by simp[World.cell?,Bk]
  clear R2 x4 Bk g2;have hx:x=0∨x=1∨x=2∨x=3:=by omega
  rcases hx with rfl|rfl|rfl|rfl;all_goals
   clear x4';go_wp2;go_ret;exact⟨_,rfl,HR2,gN⟩
 |false=>
  go_wp2_with fail
  refine(Xz w0 rb a n cap lo hi _ hl hh HR1).mono ?_;rintro e u2 ⟨x,rfl,R2,g2⟩;have HR2:Hid (Rd w0 u2 rb a n cap):=R2;clear R2;go_wp2;go_ret;exact⟨_,rfl,HR2,CG g1 g2⟩
open Go
section
variable {P:Program}{ops:Array Oper}{Q:Exit->Act->World->Prop}{md:Region.Mode}{S:World->Prop}{n:Nat}
def Cc(P:Program)(md:Region.Mode)(ops:Array Oper)(Q:Exit->Act->World->Prop)(S:World->Prop)(n:Nat)(f:Nat)(L:Array Bool)(a:Act)(w:World):Prop:=
 match f with
 |0=>Region.ready md ops L=[]/\Q .normal a w
 |f+1=>(Region.ready md ops L=[]->Q .normal a w)/\
  ∀i∈Region.ready md ops L,wpOp P ops Q i (fun a' w'=>(i≠n->S w')/\Cc P md ops Q S n f (L.setIfInBounds i true) a' w') a w
theorem Cc.any{f:Nat}:∀{L:Array Bool}{a:Act}{w:World},Cc P md ops Q S n f L a w->wpAny P md ops Q f L a w:=by
 induction f with
 |zero=>intro L a w h;exact h
 |succ f ih=>intro L a w h;exact⟨h.1,fun i hi=>wpOp_mono (fun _ _ k=>ih k.2) (h.2 i hi)⟩
theorem Nj{i:Nat}{L:Array Bool}(h:i∈Region.ready md ops L):L.getD i false=false:=by
 have h0:=(mem_ready.1 h).1;by_cases hl:i<L.size
 ·simp[hl]at h0 ⊢;exact h0
 ·simp[Array.getElem?_eq_none (Nat.le_of_not_lt hl)]
theorem Cc.takes{i:Nat}{oi:Oper}{v:Value}(hi:ops[i]? =some oi)(hs:Region.noSelect ops=true)
 (hwait:∀o,ops[n]? =some o->∃e∈o.after,Region.binds md e=true/\e.on=i)
 (hQ:∀c a w,Q (.panic c) (a.put oi.dst v) w->Q (.panic c) a w)(f:Nat):∀{L:Array Bool}{a:Act}{w:World},
 (∀j oj,ops[j]? =some oj->j≠i->L.getD j true=false->(∀e∈oj.after,Region.binds md e=true->e.on≠i)->oi.apart ops oj=true)->
 i∈Region.ready md ops L->YieldsIf P ops S oi v a->S w->Cc P md ops Q S n f (L.setIfInBounds i true) (a.put oi.dst v) w->Cc P md ops Q S n (f+1) L a w:=by
 have sel:=Region.noSelect_spec hs;induction f with
 |zero=>
  intro L a w _ hr hy hS H;refine⟨fun e=>absurd hr (by rw[e];simp),fun j hj=>?_⟩;by_cases e:j=i
  ·subst e;exact hy.wpOp hi hS ⟨fun _=>hS,H⟩
  ·have:=ready_mono hj e;rw[H.1]at this;simp at this
 |succ f ih=>
  intro L a w hfree hr hy hS H;refine⟨fun e=>absurd hr (by rw[e];simp),fun j hj=>?_⟩;by_cases e:j=i
  ·subst e;exact hy.wpOp hi hS ⟨fun _=>hS,H⟩
  ·obtain⟨hun,oj,hoj,hall⟩:=mem_ready.1 hj;have un:=Nj hr;have apart:∀x∈oj.after,Region.binds md x=true->x.on≠i:=fun x hx hb hq=>by
    have:=hall x hx hb;rw[hq,un]at this;cases this
   have hjn:j≠n:=fun hq=>by
    obtain⟨x,hx,hb,ho⟩:=hwait oj (by rw[<-hq];exact hoj);exact apart x hx hb ho
   refine wpOp_mono (fun a' w' k=>⟨fun _=>k.2.1 hjn,?_⟩) (wpOp_putIf hoj (hfree j oj hoj e hun apart) (fun cs b=>sel i oi cs b hi) (fun cs b=>sel j oj cs b hoj) hQ hy (H.2 j (ready_mono hj e)));refine ih (fun k ok hk hki hkl hkn=>hfree k ok hk hki ?_ hkn) (ready_mono hr (Ne.symm e)) k.1 (k.2.1 hjn) ?_
   ·by_cases q:j=k
    ·subst q;exact hun
    ·rw[getD_set_ne true q]at hkl;exact hkl
   ·rw[Array.setIfInBounds_comm _ _ e];exact k.2.2
def Uw(md:Region.Mode)(ops:Array Oper)(n i:Nat):Bool:=match ops[n]? with
 |some o=>o.after.any (fun e=>Region.binds md e&&e.on==i)
 |none=>true
theorem WL{i:Nat}(h:Uw md ops n i=true):∀o,ops[n]? =some o->∃e∈o.after,Region.binds md e=true/\e.on=i:=fun o ho=>by
 unfold Uw at h;rw[ho]at h;dsimp only at h;obtain⟨e,he,hb⟩:=Array.any_eq_true'.1 h;simp only[Bool.and_eq_true,beq_iff_eq]at hb;exact⟨e,he,hb⟩
theorem Cc.take{i:Nat}{oi:Oper}(v:Value){f:Nat}{L:Array Bool}{a:Act}{w:World}(hi:ops[i]? =some oi)(hs:Region.noSelect ops=true)(hf:Region.free md ops L i=true)
 (hr:(Region.ready md ops L).contains i=true)(hw:Uw md ops n i=true)(hQ:∀c a w,Q (.panic c) (a.put oi.dst v) w->Q (.panic c) a w)(hS:S w)
 (hy:YieldsIf P ops S oi v a)(h:Cc P md ops Q S n f (L.setIfInBounds i true) (a.put oi.dst v) w):Cc P md ops Q S n (f+1) L a w:=
 Cc.takes hi hs (WL hw) hQ f (Region.free_spec hi hf) (by simpa using hr) hy hS h
theorem Cc.one{i:Nat}{o:Oper}{f:Nat}{L:Array Bool}{a:Act}{w:World}(hi:ops[i]? =some o)(hr:Region.ready md ops L=[i])
 (h:∀K':Act->World->Prop,Hid (∀a w,(i≠n->S w)->Cc P md ops Q S n f (L.setIfInBounds i true) a w->K' a w)->if Region.wanted o (yielded ops a.tmps)=true then Oper.wp P o a w K' Q else K' (a.put o.dst undef) w):Cc P md ops Q S n (f+1) L a w:=
 ⟨fun e=>absurd (hr.symm.trans e) (by simp),fun j hj=>by
   rw[hr]at hj;obtain rfl:j=i:=by simpa using hj
   exact wpOp_step hi (fun K' hK=>h K' (fun a w h1 h2=>hK a w ⟨h1,h2⟩))⟩
theorem Cc.done{f:Nat}{L:Array Bool}{a:Act}{w:World}(hr:Region.ready md ops L=[])(h:Q .normal a w):Cc P md ops Q S n f L a w:=by
 cases f with
 |zero=>exact⟨hr,h⟩
 |succ f=>exact⟨fun _=>h,fun i hi=>by rw[hr]at hi;simp at hi⟩
theorem Cc.region{id:Nat}{a:Act}{w:World}(S:World->Prop)(n:Nat)(hm:P.follows .mixedOrders=true)(h:Cc P .any ops Q S n ops.size (Array.replicate ops.size false) a w.drew):(Code.region id ops true).wp P Q a w:=
 wp_region_any hm h.any
end
theorem Ue(base:Int)(f g:Nat->Int)(cat level:Int)(k:Nat):(FX base f g cat level k).1.length<=k+(FX base f g cat level k).2.toNat:=by
 induction k with
 |zero=>simp[FX]
 |succ k ih=>
  generalize hR:FX base f g cat level k=r at ih;obtain⟨l,d⟩:=r;rw[Oe hR];dsimp only at ih ⊢;have h2:(Il l d cat level (f k)).1.length<=k+(Il l d cat level (f k)).2.toNat:=by
   unfold Il;cases d with
   |true=>simpa using ih
   |false=>
    split
    ·simp only[List.length_append,List.length_singleton,Bool.toNat_true];simp only[Bool.toNat_false]at ih;omega
    ·exact ih
  split
  ·omega
  ·rw[List.length_append];show _+1<=_;omega
theorem Ez(base:Int)(n:Nat)(f g:Nat->Int)(cat level:Int):(EJ base n f g cat level).length<=n+1:=by
 have:=Ue base f g cat level n;unfold EJ;dsimp only;generalize FX base f g cat level n=r at this;obtain⟨l,d⟩:=r;cases d with
 |true=>simpa using this
 |false=>
  simp only[Bool.toNat_false]at this;simp only[Bool.false_eq_true,if_false,List.length_append,List.length_singleton];omega
structure Rm(w0 w W:World)(rb:Nat)(a:Option Addr)(n cap:Nat)(Z:Nat)(base:Int)(va:Option Addr)(vc:Nat)(l:List (Int×Int)):Prop where
 z:Ah W Z (.cells #[.int .i64 base,.slice va l.length vc] 30)
 r:Rd w0 W rb a n cap
 o:Bi W (Z+1) (.slice va l.length vc) l
 g:w.grownBy W (some rb)
section
variable {w0 w W W':World}{rb:Nat}{a:Option Addr}{n cap Z:Nat}{base:Int}{va:Option Addr}{vc:Nat}{l:List (Int×Int)}
theorem Rm.below(h:Rm w0 w W rb a n cap Z base va vc l)(hb:Below W W W'):Rm w0 w W' rb a n cap Z base va vc l:=
 ⟨h.z.below hb,h.r.below hb,Bi.below h.o hb,Je h.g hb⟩
theorem Rm.call(h:Rm w0 w W rb a n cap Z base va vc l)(hz:rb<Z)(r:Rd w0 W' rb a n cap)(hg:W.grownBy W' (some rb)):Rm w0 w W' rb a n cap Z base va vc l:=
 ⟨h.z.grown hg (by simp;omega),r,World.ownsRow.kept h.o hg (Or.inr (fun e=>by have:=(World.ownsRow.lt h.o _ e).1;omega)),CG h.g hg⟩
theorem Ef{x y:World}{P Z:Nat}(h:x.grownBy y (some P))(hz:x.heap.size<=Z)(i:Nat)(v:Value):x.grownBy (y.setCell ⟨Z,i,none⟩ v) (some P):=
 ⟨h.os,h.tape,h.output,by rw[nblk_setCell];exact h.size,fun j hj hne=>(blk_setCell_other _ _ _ _ (by dsimp only;omega)).trans (h.block j hj hne)⟩
theorem Rd.set(h:Rd w0 W rb a n cap)(hz:rb<Z)(i:Nat)(v:Value):Rd w0 (W.setCell ⟨Z,i,none⟩ v) rb a n cap:=by
 obtain⟨E,le,by',hn,p,hp,hB⟩:=h;exact⟨E.setCell (by dsimp only;omega) _,le,by',hn,p,hp,(blk_setCell_other _ _ _ _ (by dsimp only;omega)).trans hB⟩
theorem Rm.put{l':List (Int×Int)}{ua:Option Addr}{uc:Nat}(h:Rm w0 w W rb a n cap Z base va vc l)(hz:rb<Z)(hw:w.heap.size<=Z)(o':Bi W (Z+1) (.slice ua l'.length uc) l'):
 Rm w0 w ((W.setCell ⟨Z,0,none⟩ (.int .i64 base)).setCell ⟨Z,1,none⟩ (.slice ua l'.length uc)) rb a n cap Z base ua uc l':=
 ⟨(h.z.set0 _).set1 _,(h.r.set hz _ _).set hz _ _,Bi.set (Bi.set o' (by omega) _ _) (by omega) _ _,Ef (Ef h.g hw _ _) hw _ _⟩
theorem Rm.put0(h:Rm w0 w W rb a n cap Z base va vc l)(hz:rb<Z)(hw:w.heap.size<=Z)(b':Int):
 Rm w0 w (W.setCell ⟨Z,0,none⟩ (.int .i64 b')) rb a n cap Z b' va vc l:=
 ⟨h.z.set0 _,h.r.set hz _ _,Bi.set h.o (by omega) _ _,Ef h.g hw _ _⟩
theorem Rm.frame{row:Option Nat}(h:Rm w0 w W rb a n cap Z base va vc l)(hz:rb<Z)(hw:w.heap.size<=Z)(hg:W.grownBy W' row)(hr:∀j,row=some j->Z+1<=j):
 Ah W' Z (.cells #[.int .i64 base,.slice va l.length vc] 30)/\Rd w0 W' rb a n cap/\w.grownBy W' (some rb):=by
 refine⟨h.z.grown hg (fun e=>by have:=hr Z e.symm;omega),?_,DV h.g hg (fun j e=>by have:=hr j e;omega)⟩;obtain⟨E,le,by',hn,p,hp,hB⟩:=h.r;exact⟨E.grown hg E.size (fun j e=>by have:=hr j e;omega),le,by',hn,p,hp,hB.grown hg (fun e=>by have:=hr rb e.symm;omega)⟩
end
def Ja(x:Nat):Int:=if x=0 then 1001 else if x=1 then 2001 else if x=2 then 3001 else 5
theorem Jd{W:World}{q:Nat}(h:Ah W q (.cells #[.int .i64 1001,.int .i64 2001,.int .i64 3001,.int .i64 5] 2)){x:Nat}(hx:x<4):W.cell? ⟨q,x,none⟩=some (.int .i64 (Ja x)):=by
 unfold Ah at h;have:x=0∨x=1∨x=2∨x=3:=by omega
 rcases this with rfl|rfl|rfl|rfl<;>simp[World.cell?,h,Ja]
section
variable {P:Program}{ops:Array Oper}{Q:Exit->Act->World->Prop}{md:Region.Mode}{S:World->Prop}{n:Nat}
theorem Cc.two{i j:Nat}{oi oj:Oper}{f:Nat}{L:Array Bool}{a:Act}{w:World}(hi:ops[i]? =some oi)(hj:ops[j]? =some oj)(hr:Region.ready md ops L=[i,j])
 (h1:∀K':Act->World->Prop,Hid (∀a w,(i≠n->S w)->Cc P md ops Q S n f (L.setIfInBounds i true) a w->K' a w)->if Region.wanted oi (yielded ops a.tmps)=true then Oper.wp P oi a w K' Q else K' (a.put oi.dst undef) w)
 (h2:∀K':Act->World->Prop,Hid (∀a w,(j≠n->S w)->Cc P md ops Q S n f (L.setIfInBounds j true) a w->K' a w)->if Region.wanted oj (yielded ops a.tmps)=true then Oper.wp P oj a w K' Q else K' (a.put oj.dst undef) w):Cc P md ops Q S n (f+1) L a w:=
 ⟨fun e=>absurd (hr.symm.trans e) (by simp),fun k hk=>by
   rw[hr]at hk;have:k=i∨k=j:=(by simpa using hk);rcases this with rfl|rfl
   ·exact wpOp_step hi (fun K' hK=>h1 K' (fun a w q1 q2=>hK a w ⟨q1,q2⟩))
   ·exact wpOp_step hj (fun K' hK=>h2 K' (fun a w q1 q2=>hK a w ⟨q1,q2⟩))⟩
end
theorem Mx(w0:World)(rb:Nat)(a:Option Addr)(n cap:Nat)(w:World)(h:Rd w0 w rb a n cap):
 Calls prog 38 #[.pointer rb] w fun e w'=>∃(base:Int) (l:List (Int×Int)) (va:Option Addr) (vc:Nat),e= .returned (.agg #[.int .i64 base,.slice va l.length vc])/\l.length<=3/\Bi w' w (.slice va l.length vc) l/\Rd w0 w' rb a n cap/\w.grownBy w' (some rb):=by
 have HR:Hid (Rd w0 w rb a n cap):=h;have lr:=h.lt;clear h;have n4:No (.cells #[.int .i64 0,.slice none 0 0] 30):=⟨⟩;have K0:=(Below.refl _ w).alloc nr n4;have Y0:=Ah.new w n4;go_enter func38,ntmps38
 go_wp2_with fail
 refine(AH w0 rb a n cap 2 _ (by omega) (HR.out.below K0)).mono ?_;rintro e u1 ⟨x,rfl,_,x2,R1,g1⟩;have x2':=x2 (by omega);have gw:w.grownBy u1 (some rb):=CG (DV (Cr w rb) (World.grownBy_alloc w _ none) (fun j e=>by cases e)) g1;have Y1:=Y0.grown g1 (by simp;omega);have wx:IntKind.i64.wrap (1+(x:Int))=1+(x:Int):=by rw[IntKind.wrap_i64];omega
 have su:w.heap.size+1<=u1.heap.size:=by have:=g1.size;simpa using this
 have n7:No (.cells #[.int .i64 (1+(x:Int)),.slice none 0 0] 30):=⟨⟩;have L1:Rm w0 w (u1.alloc n7) rb a n cap u1 (1+(x:Int)) none 0 []:=
  ⟨Ah.new _ _,R1.below (Be _ _),AL.nil _ _ _ _,Je gw (Be _ _)⟩
 have Y2:=Y1.alloc n7;have hz:rb<u1.heap.size:=by omega
 have hw:w.heap.size<=u1.heap.size:=by omega
 clear R1 g1 Y1 Y0 K0 gw HR x2;go_wp2_with fail
 refine(El w0 rb a n cap 4 _ (by omega) L1.r).mono ?_;rintro e u2 ⟨t,rfl,R2,g2⟩;have L2:=L1.call hz R2 g2;have Y3:=Y2.grown g2 (by simp;omega);clear L1 R2 g2 Y2;generalize u1.heap.size=Z at *;go_upto_if 10 with fail
 go_cut[] (fun wc=>∃base:Int,Rm w0 w wc rb a n cap Z base none 0 []/\Ah wc w n4)
 case first=>
  cases t with
  |true=>
   go_wp2_with fail
   refine(AH w0 rb a n cap 4 _ (by omega) L2.r).mono ?_;rintro e u3 ⟨y,rfl,_,_,R3,g3⟩;have L3:=L2.call hz R3 g3;have Y4:=Y3.grown g3 (by simp;omega);obtain⟨z1,z2⟩:=L3.z.two;have zf:=L3.z.jQ 0;go_wp2_with fail
   go_meet;case rel=>exact⟨_,L3.put0 hz hw _,(blk_setCell_other _ _ _ _ (by dsimp only;omega)).trans Y4⟩
  |false=>
   go_wp2_with fail
   go_meet;case rel=>exact⟨_,L2,Y3⟩
 case rest=>
  obtain⟨base,L4,Y4⟩:=hcut;clear L2 Y3;go_wp2_with fail
  refine(AH w0 rb a n cap 3 _ (by omega) L4.r).mono ?_;rintro e u4 ⟨m,rfl,_,m3,R5,g5⟩;have m3':=m3 (by omega);have L5:=L4.call hz R5 g5;have Y5:=Y4.grown g5 (by simp;omega);clear L4 R5 g5 Y4;go_wp2_with fail
  go_loopw [4] (fun i wr=>∃(k:Nat) (l:List (Int×Int)) (va:Option Addr) (vc:Nat),k<=2/\i= .int .i64 k/\l.length+k<=2/\Rm w0 w wr rb a n cap Z base va vc l/\Ah wr w (.cells #[.int .i64 0,.slice none 0 0] 30)) (fun i _=>(intOf i).toNat)
  case atStart=>exact⟨m,[],none,0,by omega,rfl,by simp;omega,L5,Y5⟩
  case round=>
   obtain⟨k,l,va,vc,hk,rfl,hlk,L6,Y6⟩:=hrel;clear L5 Y5;by_cases hlt:0<k
   ·have hlt':(0:Int)<(k:Int):=(by omega);have wk:IntKind.i64.wrap ((k:Int)-1)=(k:Int)-1:=(by rw[IntKind.wrap_i64];omega);have Sd:wr.drew.cell? ⟨Z,0,none⟩=some (.int .i64 base)/\wr.drew.cell? ⟨Z,1,none⟩=some (.slice va l.length vc):=L6.z.two;have Ld:=L6.below (Below.refl _ wr).drew;have n5:No (.cells #[.int .i64 0,.slice none 0 0] 30):=⟨⟩;have Yd:Ah wr.drew w n5:=Y6;obtain⟨z1,z2⟩:=L6.z.two;go_wp2_with fail
    refine Cc.region (fun w'=>w'.cell? ⟨Z,0,none⟩=some (.int .i64 base)/\w'.cell? ⟨Z,1,none⟩=some (.slice va l.length vc)) 9 (by kernel_rfl) ?_;clear z1 z2;refine Cc.take (i:=0) (.agg #[.int .i64 base,.slice va l.length vc]) rfl (by kernel_rfl) (by kernel_rfl) (by kernel_rfl) (by kernel_rfl) (fun _ _ _ h=>h) Sd (Or.inl ⟨by rfl,fun w' h=>(by dsimp only at h;go_simp)⟩) ?_;simp only[Act.put,List.setIfInBounds_toArray];have n10:Nv (.pointer rb):=⟨⟩;refine Cc.take (i:=2) n10 rfl (by kernel_rfl) (by kernel_rfl) (by kernel_rfl) (by kernel_rfl) (fun _ _ _ h=>h) Sd (Or.inl ⟨by rfl,fun w' h=>(by dsimp only at h;go_simp)⟩) ?_;simp only[Act.put];refine Cc.take (i:=6) n10 rfl (by kernel_rfl) (by kernel_rfl) (by kernel_rfl) (by kernel_rfl) (fun _ _ _ h=>h) Sd (Or.inl ⟨by rfl,fun w' h=>(by dsimp only at h;go_simp)⟩) ?_;simp only[Act.put];refine Cc.two (i:=1) (j:=3) rfl rfl (by kernel_rfl) (fun K1 hK1=>?_) (fun K1 hK1=>?_)
    ·go_simp;have lq:Z<wr.heap.size:=L6.z.lt;have n1:No (.cells #[.int .i64 1001,.int .i64 2001,.int .i64 3001,.int .i64 5] 2):=⟨⟩;have Kv1:Below wr wr (wr.alloc n1).drew:=((Below.refl _ wr).alloc nr n1).drew;have Lv1:=L6.below Kv1;have Yv1:=Y6.below Kv1;have Bv1:Ah (wr.alloc n1).drew wr n1:=Ah.new wr n1;generalize (wr.alloc n1).drew=v1 at *;generalize wr.heap.size=q at *;refine hK1 _ _ (fun _=>Lv1.z.two) ?_;clear hK1 K1 Kv1;refine Cc.one (i:=3) rfl (by kernel_rfl) (fun K1 hK1=>?_);go_simp;refine(AH w0 rb a n cap 4 _ (by omega) Lv1.r).mono ?_;rintro e v3 ⟨x5,rfl,_,x54,Rv3,gv3⟩;have x54':=x54 (by omega);have x5i0:(0:Int)<=(x5:Int):=(by omega);have x5i4:(x5:Int)<4:=(by omega);have Lv3:=Lv1.call hz Rv3 gv3;have Yv3:=Yv1.grown gv3 (by simp;omega);have Bv3:=Bv1.grown gv3 (by simp;omega);refine hK1 _ _ (fun _=>Lv3.z.two) ?_;clear hK1 K1;refine Cc.take (i:=4) (.pointer (some ⟨q,x5,none⟩)) rfl (by kernel_rfl) (by kernel_rfl) (by kernel_rfl) (by kernel_rfl) (fun _ _ _ h=>h) Lv3.z.two (Or.inl ⟨by rfl,fun w' h=>(by dsimp only at h;go_simp)⟩) ?_;simp only[Act.put];refine Cc.two (i:=5) (j:=7) rfl rfl (by kernel_rfl) (fun K1 hK1=>?_) (fun K1 hK1=>?_)
     ·have c5:=Jd Bv3 x54';go_simp;refine hK1 _ _ (fun _=>Lv3.z.two) ?_;clear hK1 K1 c5;refine Cc.one (i:=7) rfl (by kernel_rfl) (fun K1 hK1=>?_);go_simp;refine(AH w0 rb a n cap 4 _ (by omega) Lv3.r).mono ?_;rintro e v7 ⟨y,rfl,_,y4,Rv7,gv7⟩;have y4':=y4 (by omega);have yi0:(0:Int)<=(y:Int):=(by omega);have yi4:(y:Int)<4:=(by omega);have Lv7:=Lv3.call hz Rv7 gv7;have Yv7:=Yv3.grown gv7 (by simp;omega);have Bv7:=Bv3.grown gv7 (by simp;omega);refine hK1 _ _ (fun _=>Lv7.z.two) ?_;clear hK1 K1;refine Cc.one (i:=8) rfl (by kernel_rfl) (fun K1 hK1=>?_);go_simp;refine(Gl base va l.length vc (CS l) (CY l) (Ja x5) y _ (by omega) (AL.cats Lv7.o)).mono ?_;rintro e u9 ⟨ua,uc,rfl,uo,hb9⟩;have L9:=Lv7.below hb9;have Y9:=Yv7.below hb9;refine hK1 _ _ (fun _=>L9.z.two) ?_;clear hK1 K1;obtain⟨z6,z7⟩:=L9.z.two;have zf0:=L9.z.jQ 0;have zf1:=L9.z.jQ 1;refine Cc.one (i:=9) rfl (by kernel_rfl) (fun K1 hK1=>?_);go_simp;refine hK1 _ _ (fun h=>absurd rfl h) ?_;refine Cc.done (by kernel_rfl) ?_;have il:=Ez base l.length (CS l) (CY l) (Ja x5) y;have LN:=L9.put hz hw (ownsRow_base_a uo Lv7.z.lt);have YN:Ah _ w n5:=(blk_setCell_other _ ⟨Z,1,none⟩ (.slice ua (EJ base l.length (CS l) (CY l) (Ja x5) y).length uc) w (by dsimp only;omega)).trans ((blk_setCell_other _ ⟨Z,0,none⟩ (.int .i64 base) w (by dsimp only;omega)).trans Y9);clear hK1 K1 z6 z7 zf0 zf1 uo hb9 L9 Y9;go_wp2;go_roundw;case rel=>exact⟨k-1,_,_,_,by omega,by go_num,by omega,LN,YN⟩
      case measure=>simp[intOf];omega
     ·go_simp;refine(AH w0 rb a n cap 4 _ (by omega) Lv3.r).mono ?_;rintro e v7 ⟨y,rfl,_,y4,Rv7,gv7⟩;have y4':=y4 (by omega);have yi0:(0:Int)<=(y:Int):=(by omega);have yi4:(y:Int)<4:=(by omega);have Lv7:=Lv3.call hz Rv7 gv7;have Yv7:=Yv3.grown gv7 (by simp;omega);have Bv7:=Bv3.grown gv7 (by simp;omega);refine hK1 _ _ (fun _=>Lv7.z.two) ?_;clear hK1 K1;refine Cc.one (i:=5) rfl (by kernel_rfl) (fun K1 hK1=>?_);have c5:=Jd Bv7 x54';go_simp;refine hK1 _ _ (fun _=>Lv7.z.two) ?_;clear hK1 K1 c5;refine Cc.one (i:=8) rfl (by kernel_rfl) (fun K1 hK1=>?_);go_simp;refine(Gl base va l.length vc (CS l) (CY l) (Ja x5) y _ (by omega) (AL.cats Lv7.o)).mono ?_;rintro e u9 ⟨ua,uc,rfl,uo,hb9⟩;have L9:=Lv7.below hb9;have Y9:=Yv7.below hb9;refine hK1 _ _ (fun _=>L9.z.two) ?_;clear hK1 K1;obtain⟨z6,z7⟩:=L9.z.two;have zf0:=L9.z.jQ 0;have zf1:=L9.z.jQ 1;refine Cc.one (i:=9) rfl (by kernel_rfl) (fun K1 hK1=>?_);go_simp;refine hK1 _ _ (fun h=>absurd rfl h) ?_;refine Cc.done (by kernel_rfl) ?_;have il:=Ez base l.length (CS l) (CY l) (Ja x5) y;have LN:=L9.put hz hw (ownsRow_base_a uo Lv7.z.lt);have YN:Ah _ w n5:=(blk_setCell_other _ ⟨Z,1,none⟩ (.slice ua (EJ base l.length (CS l) (CY l) (Ja x5) y).length uc) w (by dsimp only;omega)).trans ((blk_setCell_other _ ⟨Z,0,none⟩ (.int .i64 base) w (by dsimp only;omega)).trans Y9);clear hK1 K1 z6 z7 zf0 zf1 uo hb9 L9 Y9;go_wp2;go_roundw;case rel=>exact⟨k-1,_,_,_,by omega,by go_num,by omega,LN,YN⟩
      case measure=>simp[intOf];omega
    ·go_simp;refine(AH w0 rb a n cap 4 _ (by omega) Ld.r).mono ?_;rintro e v3 ⟨x5,rfl,_,x54,Rv3,gv3⟩;have x54':=x54 (by omega);have x5i0:(0:Int)<=(x5:Int):=(by omega);have x5i4:(x5:Int)<4:=(by omega);have Lv3:=Ld.call hz Rv3 gv3;have Yv3:=Yd.grown gv3 (by simp;omega);refine hK1 _ _ (fun _=>Lv3.z.two) ?_;clear hK1 K1;refine Cc.two (i:=1) (j:=7) rfl rfl (by kernel_rfl) (fun K1 hK1=>?_) (fun K1 hK1=>?_)
     ·go_simp;have lq:Z<v3.heap.size:=Lv3.z.lt;have n2:No (.cells #[.int .i64 1001,.int .i64 2001,.int .i64 3001,.int .i64 5] 2):=⟨⟩;have Kv1:Below v3 v3 (v3.alloc n2):=((Below.refl _ v3).alloc nr n2);have Lv1:=Lv3.below Kv1;have Yv1:=Yv3.below Kv1;have Bv1:Ah (v3.alloc n2) v3 n2:=Ah.new v3 n2;generalize (v3.alloc n2)=v1 at *;generalize v3.heap.size=q at *;refine hK1 _ _ (fun _=>Lv1.z.two) ?_;clear hK1 K1 Kv1;refine Cc.take (i:=4) (.pointer (some ⟨q,x5,none⟩)) rfl (by kernel_rfl) (by kernel_rfl) (by kernel_rfl) (by kernel_rfl) (fun _ _ _ h=>h) Lv1.z.two (Or.inl ⟨by rfl,fun w' h=>(by dsimp only at h;go_simp)⟩) ?_;simp only[Act.put];refine Cc.two (i:=5) (j:=7) rfl rfl (by kernel_rfl) (fun K1 hK1=>?_) (fun K1 hK1=>?_)
      ·have c5:=Jd Bv1 x54';go_simp;refine hK1 _ _ (fun _=>Lv1.z.two) ?_;clear hK1 K1 c5;refine Cc.one (i:=7) rfl (by kernel_rfl) (fun K1 hK1=>?_);go_simp;refine(AH w0 rb a n cap 4 _ (by omega) Lv1.r).mono ?_;rintro e v7 ⟨y,rfl,_,y4,Rv7,gv7⟩;have y4':=y4 (by omega);have yi0:(0:Int)<=(y:Int):=(by omega);have yi4:(y:Int)<4:=(by omega);have Lv7:=Lv1.call hz Rv7 gv7;have Yv7:=Yv1.grown gv7 (by simp;omega);have Bv7:=Bv1.grown gv7 (by simp;omega);refine hK1 _ _ (fun _=>Lv7.z.two) ?_;clear hK1 K1;refine Cc.one (i:=8) rfl (by kernel_rfl) (fun K1 hK1=>?_);go_simp;refine(Gl base va l.length vc (CS l) (CY l) (Ja x5) y _ (by omega) (AL.cats Lv7.o)).mono ?_;rintro e u9 ⟨ua,uc,rfl,uo,hb9⟩;have L9:=Lv7.below hb9;have Y9:=Yv7.below hb9;refine hK1 _ _ (fun _=>L9.z.two) ?_;clear hK1 K1;obtain⟨z6,z7⟩:=L9.z.two;have zf0:=L9.z.jQ 0;have zf1:=L9.z.jQ 1;refine Cc.one (i:=9) rfl (by kernel_rfl) (fun K1 hK1=>?_);go_simp;refine hK1 _ _ (fun h=>absurd rfl h) ?_;refine Cc.done (by kernel_rfl) ?_;have il:=Ez base l.length (CS l) (CY l) (Ja x5) y;have LN:=L9.put hz hw (ownsRow_base_a uo Lv7.z.lt);have YN:Ah _ w n5:=(blk_setCell_other _ ⟨Z,1,none⟩ (.slice ua (EJ base l.length (CS l) (CY l) (Ja x5) y).length uc) w (by dsimp only;omega)).trans ((blk_setCell_other _ ⟨Z,0,none⟩ (.int .i64 base) w (by dsimp only;omega)).trans Y9);clear hK1 K1 z6 z7 zf0 zf1 uo hb9 L9 Y9;go_wp2;go_roundw;case rel=>exact⟨k-1,_,_,_,by omega,by go_num,by omega,LN,YN⟩
       case measure=>simp[intOf];omega
      ·go_simp;refine(AH w0 rb a n cap 4 _ (by omega) Lv1.r).mono ?_;rintro e v7 ⟨y,rfl,_,y4,Rv7,gv7⟩;have y4':=y4 (by omega);have yi0:(0:Int)<=(y:Int):=(by omega);have yi4:(y:Int)<4:=(by omega);have Lv7:=Lv1.call hz Rv7 gv7;have Yv7:=Yv1.grown gv7 (by simp;omega);have Bv7:=Bv1.grown gv7 (by simp;omega);refine hK1 _ _ (fun _=>Lv7.z.two) ?_;clear hK1 K1;refine Cc.one (i:=5) rfl (by kernel_rfl) (fun K1 hK1=>?_);have c5:=Jd Bv7 x54';go_simp;refine hK1 _ _ (fun _=>Lv7.z.two) ?_;clear hK1 K1 c5;refine Cc.one (i:=8) rfl (by kernel_rfl) (fun K1 hK1=>?_);go_simp;refine(Gl base va l.length vc (CS l) (CY l) (Ja x5) y _ (by omega) (AL.cats Lv7.o)).mono ?_;rintro e u9 ⟨ua,uc,rfl,uo,hb9⟩;have L9:=Lv7.below hb9;have Y9:=Yv7.below hb9;refine hK1 _ _ (fun _=>L9.z.two) ?_;clear hK1 K1;obtain⟨z6,z7⟩:=L9.z.two;have zf0:=L9.z.jQ 0;have zf1:=L9.z.jQ 1;refine Cc.one (i:=9) rfl (by kernel_rfl) (fun K1 hK1=>?_);go_simp;refine hK1 _ _ (fun h=>absurd rfl h) ?_;refine Cc.done (by kernel_rfl) ?_;have il:=Ez base l.length (CS l) (CY l) (Ja x5) y;have LN:=L9.put hz hw (ownsRow_base_a uo Lv7.z.lt);have YN:Ah _ w n5:=(blk_setCell_other _ ⟨Z,1,none⟩ (.slice ua (EJ base l.length (CS l) (CY l) (Ja x5) y).length uc) w (by dsimp only;omega)).trans ((blk_setCell_other _ ⟨Z,0,none⟩ (.int .i64 base) w (by dsimp only;omega)).trans Y9);clear hK1 K1 z6 z7 zf0 zf1 uo hb9 L9 Y9;go_wp2;go_roundw;case rel=>exact⟨k-1,_,_,_,by omega,by go_num,by omega,LN,YN⟩
       case measure=>simp[intOf];omega
     ·go_simp;refine(AH w0 rb a n cap 4 _ (by omega) Lv3.r).mono ?_;rintro e v7 ⟨y,rfl,_,y4,Rv7,gv7⟩;have y4':=y4 (by omega);have yi0:(0:Int)<=(y:Int):=(by omega);have yi4:(y:Int)<4:=(by omega);have Lv7:=Lv3.call hz Rv7 gv7;have Yv7:=Yv3.grown gv7 (by simp;omega);refine hK1 _ _ (fun _=>Lv7.z.two) ?_;clear hK1 K1;refine Cc.one (i:=1) rfl (by kernel_rfl) (fun K1 hK1=>?_);go_simp;have lq:Z<v7.heap.size:=Lv7.z.lt;have n3:No (.cells #[.int .i64 1001,.int .i64 2001,.int .i64 3001,.int .i64 5] 2):=⟨⟩;have Kv1:Below v7 v7 (v7.alloc n3):=((Below.refl _ v7).alloc nr n3);have Lv1:=Lv7.below Kv1;have Yv1:=Yv7.below Kv1;have Bv1:Ah (v7.alloc n3) v7 n3:=Ah.new v7 n3;generalize (v7.alloc n3)=v1 at *;generalize v7.heap.size=q at *;refine hK1 _ _ (fun _=>Lv1.z.two) ?_;clear hK1 K1 Kv1;refine Cc.take (i:=4) (.pointer (some ⟨q,x5,none⟩)) rfl (by kernel_rfl) (by kernel_rfl) (by kernel_rfl) (by kernel_rfl) (fun _ _ _ h=>h) Lv1.z.two (Or.inl ⟨by rfl,fun w' h=>(by dsimp only at h;go_simp)⟩) ?_;simp only[Act.put];refine Cc.one (i:=5) rfl (by kernel_rfl) (fun K1 hK1=>?_);have c5:=Jd Bv1 x54';go_simp;refine hK1 _ _ (fun _=>Lv1.z.two) ?_;clear hK1 K1 c5;refine Cc.one (i:=8) rfl (by kernel_rfl) (fun K1 hK1=>?_);go_simp;refine(Gl base va l.length vc (CS l) (CY l) (Ja x5) y _ (by omega) (AL.cats Lv1.o)).mono ?_;rintro e u9 ⟨ua,uc,rfl,uo,hb9⟩;have L9:=Lv1.below hb9;have Y9:=Yv1.below hb9;refine hK1 _ _ (fun _=>L9.z.two) ?_;clear hK1 K1;obtain⟨z6,z7⟩:=L9.z.two;have zf0:=L9.z.jQ 0;have zf1:=L9.z.jQ 1;refine Cc.one (i:=9) rfl (by kernel_rfl) (fun K1 hK1=>?_);go_simp;refine hK1 _ _ (fun h=>absurd rfl h) ?_;refine Cc.done (by kernel_rfl) ?_;have il:=Ez base l.length (CS l) (CY l) (Ja x5) y;have LN:=L9.put hz hw (ownsRow_base_a uo Lv1.z.lt);have YN:Ah _ w n5:=(blk_setCell_other _ ⟨Z,1,none⟩ (.slice ua (EJ base l.length (CS l) (CY l) (Ja x5) y).length uc) w (by dsimp only;omega)).trans ((blk_setCell_other _ ⟨Z,0,none⟩ (.int .i64 base) w (by dsimp only;omega)).trans Y9);clear hK1 K1 z6 z7 zf0 zf1 uo hb9 L9 Y9;go_wp2;go_roundw;case rel=>exact⟨k-1,_,_,_,by omega,by go_num,by omega,LN,YN⟩
      case measure=>simp[intOf];omega
   ·have hk0:k=0:=(by omega);subst hk0;go_wp2_with fail
    refine(El w0 rb a n cap 30 _ (by omega) L6.r).mono ?_;rintro e u7 ⟨t7,rfl,R7,g7⟩;have L7:=L6.call hz R7 g7;have Y7:=Y6.grown g7 (by simp;omega);have l3:l.length<=3:=(by omega);clear L6 Y6 R7 g7;cases t7 with
    |false=>
     obtain⟨z1,z2⟩:=L7.z.two;obtain⟨y1,y2⟩:=Y7.two;have yf0:=Y7.jQ 0;have yf1:=Y7.jQ 1;have ne6:Z≠w.heap.size:=(by omega);go_wp2;refine bodyPost_ret (v:= .agg #[.int .i64 base,.slice va l.length vc]) (by simp[results,Tryz.results38,go_sem, *]) rfl ⟨base,l,va,vc,rfl,by omega,?_,?_,?_⟩
     ·exact ownsRow_base_a (Bi.set (Bi.set L7.o (by omega) _ _) (by omega) _ _) (by omega)
     ·exact(L7.r.set lr _ _).set lr _ _
     ·exact Ef (Ef L7.g nr _ _) nr _ _
    |true=>
     have Sd:u7.drew.cell? ⟨Z,0,none⟩=some (.int .i64 base)/\u7.drew.cell? ⟨Z,1,none⟩=some (.slice va l.length vc):=L7.z.two;have Ld:=L7.below (Below.refl _ u7).drew;have n9:No (.cells #[.int .i64 0,.slice none 0 0] 30):=⟨⟩;have Yd:Ah u7.drew w n9:=Y7;obtain⟨z1,z2⟩:=L7.z.two;go_wp2_with fail
     refine Cc.region (fun w'=>w'.cell? ⟨Z,0,none⟩=some (.int .i64 base)/\w'.cell? ⟨Z,1,none⟩=some (.slice va l.length vc)) 8 (by kernel_rfl) ?_;clear z1 z2;have n11:Nv (.pointer (some ⟨Z,1,none⟩)):=⟨⟩;refine Cc.take (i:=0) n11 rfl (by kernel_rfl) (by kernel_rfl) (by kernel_rfl) (by kernel_rfl) (fun _ _ _ h=>h) Sd (Or.inl ⟨by rfl,fun w' h=>(by dsimp only at h;go_simp)⟩) ?_;simp only[Act.put,List.setIfInBounds_toArray];refine Cc.take (i:=1) (.slice va l.length vc) rfl (by kernel_rfl) (by kernel_rfl) (by kernel_rfl) (by kernel_rfl) (fun _ _ _ h=>h) Sd (Or.inl ⟨by rfl,fun w' h=>(by dsimp only at h;go_simp)⟩) ?_;simp only[Act.put];refine Cc.take (i:=2) (.pointer rb) rfl (by kernel_rfl) (by kernel_rfl) (by kernel_rfl) (by kernel_rfl) (fun _ _ _ h=>h) Sd (Or.inl ⟨by rfl,fun w' h=>(by dsimp only at h;go_simp)⟩) ?_;simp only[Act.put];refine Cc.one (i:=3) rfl (by kernel_rfl) (fun K1 hK1=>?_);go_simp;refine(Zb w0 rb a n cap 1 9 _ (by omega) (by omega) Ld.r).mono ?_;rintro e v3 ⟨x5,rfl,Rv3,gv3⟩;have Lv3:=Ld.call hz Rv3 gv3;have Yv3:=Yd.grown gv3 (by simp;omega);refine hK1 _ _ (fun _=>Lv3.z.two) ?_;clear hK1 K1;have n8:Na #[.int .i64 x5,.int .i64 2]:=⟨⟩;refine Cc.take (i:=4) (.agg n8) rfl (by kernel_rfl) (by kernel_rfl) (by kernel_rfl) (by kernel_rfl) (fun _ _ _ h=>h) Lv3.z.two (Or.inl ⟨by rfl,fun w' h=>(by dsimp only at h;go_simp)⟩) ?_;simp only[Act.put];refine Cc.one (i:=5) rfl (by kernel_rfl) (fun K1 hK1=>?_);go_simp;have Kb:=Be v3 (.cells n8 117);have Lv4:=Lv3.below Kb;have Yv4:=Yv3.below Kb;have C4:=MY v3 x5 2;have b4:Z+1<=(v3.alloc (.cells n8 117)).heap.size:=Lv4.z.lt;refine hK1 _ _ (fun _=>Lv4.z.two) ?_;clear hK1 K1;refine Cc.one (i:=6) rfl (by kernel_rfl) (fun K1 hK1=>?_);refine Fb _ rfl _ _ rfl (Z+1) _ _ (CS l) (CY l) rfl Lv4.o _ 1 1 (fun _=>x5) (fun _=>2) rfl C4 (by omega) b4 ?_;intro a' c' v6 hown' hgrow' hat';obtain⟨Zv6,Rv6,gv6⟩:=Lv4.frame hz hw hgrow' (fun j e=>(World.ownsRow.lt Lv4.o j e).1);have Yv6:=Yv4.grown hgrow' (fun e=>by have:=(World.ownsRow.lt Lv4.o _ e.symm).1;omega);refine hK1 _ _ (fun _=>Zv6.two) ?_;clear hK1 K1;simp only[Act.put];refine Cc.take (i:=7) n11 rfl (by kernel_rfl) (by kernel_rfl) (by kernel_rfl) (by kernel_rfl) (fun _ _ _ h=>h) Zv6.two (Or.inl ⟨by rfl,fun w' h=>(by dsimp only at h;go_simp)⟩) ?_;simp only[Act.put];obtain⟨z6,z7⟩:=Zv6.two;have zf1:=Zv6.jQ 1;have e1:l.length+1=(l++[(x5,2)]).length:=(by simp);have n6:Nv (.slice a' (l++[(x5,2)]).length c'):=⟨⟩;have o':Bi v6 (Z+1) n6 (l++[(x5,2)]):=(by rw[<-e1];exact Bi.snoc hown');have LN:Rm w0 w (v6.setCell ⟨Z,1,none⟩ n6) rb a n cap Z base a' c' (l++[(x5,2)]):=⟨Zv6.set1 _,Rv6.set hz _ _,Bi.set o' (by omega) _ _,Ef gv6 hw _ _⟩;have YN:Ah (v6.setCell ⟨Z,1,none⟩ n6) w n9:=(blk_setCell_other _ _ _ _ (by dsimp only;omega)).trans Yv6;have HE1:Hid (l.length+1=(l++[(x5,2)]).length):=e1;clear e1;refine Cc.one (i:=8) rfl (by kernel_rfl) (fun K1 hK1=>?_);go_simp;refine hK1 _ _ (fun h=>absurd rfl h) ?_;refine Cc.done (by kernel_rfl) ?_;have e1:=HE1.out;clear HE1;rw[e1];have l4:(l++[(x5,2)]).length<=3:=(by rw[<-e1];omega);clear e1;generalize l++[(x5,2)]=l' at *;generalize v6.setCell ⟨Z,1,none⟩ (.slice a' l'.length c')=WN at *;clear hK1 K1 z6 z7 zf1 hown' o' Zv6 Rv6 gv6 Yv6;obtain⟨z1,z2⟩:=LN.z.two;obtain⟨y1,y2⟩:=YN.two;have yf0:=YN.jQ 0;have yf1:=YN.jQ 1;have ne6:Z≠w.heap.size:=(by omega);go_wp2;refine bodyPost_ret (v:= .agg #[.int .i64 base,.slice a' l'.length c']) (by simp[results,Tryz.results38,go_sem, *]) rfl ⟨base,l',a',c',rfl,by omega,?_,?_,?_⟩
     ·exact ownsRow_base_a (Bi.set (Bi.set LN.o (by omega) _ _) (by omega) _ _) (by omega)
     ·exact(LN.r.set lr _ _).set lr _ _
     ·exact Ef (Ef LN.g nr _ _) nr _ _
theorem BytesAt.below{w w':World}{a:Option Addr}{n:Nat}(h:BytesAt w a n)(hb:Below w w w'):BytesAt w' a n:=fun h0=>by
 obtain⟨b,off,e,hlt,hc⟩:=h h0;exact⟨b,off,e,Nat.lt_of_lt_of_le hlt hb.size,fun i hi=>by obtain⟨v,hv,r⟩:=hc i hi;exact⟨v,(hb.cell (p:=⟨b,off+i,none⟩) hlt).trans hv,r⟩⟩
theorem Uu(a:Option Addr)(n cap:Nat)(w:World)(hn:n<=1048576)(hb:BytesAt w a n):
 Calls prog 11 #[.slice a n cap] w fun e w'=>∃rb,e= .returned (.pointer (some ⟨rb,0,none⟩))/\Rd w w' rb a n cap:=by
 have n1:Nw (w.alloc (.cells #[.slice a n cap,.int .i64 0] 75)):=⟨⟩;have R:Rd w n1 w a n cap:=
  ⟨Be w _,Nat.le_refl _,hb,hn,0,Nat.zero_le _,Ah.new w _⟩
 have HR:Hid (Rd w n1 w a n cap):=R;clear R hb;go_enter func11,ntmps11
 go_wp2;go_ret;exact⟨_,rfl,HR⟩
end Go.Proofs.YtefoofaocbjdoaaGreatDoor
