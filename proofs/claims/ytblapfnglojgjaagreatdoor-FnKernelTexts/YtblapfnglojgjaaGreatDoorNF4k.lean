import Derived.Test.YtblapfnglojgjaaGreatDoorNF2k
import Derived.Test.YtblapfnglojgjaaGreatDoorZ25k
set_option maxRecDepth 100000
set_option maxHeartbeats 16000000
namespace Go.Proofs.YtblapfnglojgjaaGreatDoor
open Go Go.RowKit Go.Deep Go.Maps Go.BigFrame Go.Shelf Go.Proofs.Tryz
theorem Cf.setUp{w:World}{B g co:Nat}{vt:Value}{lt:List Af}{lo:List Ae}(h:Cf w B vt (.slice g lo.length co) lt lo){u:Nat}{d:Int}(hu:u<lo.length){o:Ae}(ho:o=lo[u]):
 Cf (w.setCell ⟨g,u*10+2,none⟩ (.int .i64 d)) B vt (.slice g lo.length co) lt (lo.set u ⟨o.id,o.kind,d,o.b1,o.c1,o.data,o.jA,o.own,o.b2,o.c2⟩)/\(∃cur,Ai w g (.cells cur 51))/\B<=g:=by
 have hn:=h.on _ (List.getElem_mem hu);have hc:=h.oc _ (List.getElem_mem hu);rw[<-ho]at hn hc;obtain⟨k1,hcur,hg⟩:=h.setO (x:=⟨o.id,o.kind,d,o.b1,o.c1,o.data,o.jA,o.own,o.b2,o.c2⟩) (u:= .int .i64 d) hu (i:=2) (by omega) (by rw[<-ho];rfl) hn hc;have el:(lo.set u (⟨o.id,o.kind,d,o.b1,o.c1,o.data,o.jA,o.own,o.b2,o.c2⟩:Ae)).length=lo.length:=by simp
 rw[el]at k1;exact⟨k1,hcur,hg⟩
theorem Cf.setKind{w:World}{B g co:Nat}{vt:Value}{lt:List Af}{lo:List Ae}(h:Cf w B vt (.slice g lo.length co) lt lo){u:Nat}{d:Int}(hu:u<lo.length){o:Ae}(ho:o=lo[u]):
 Cf (w.setCell ⟨g,u*10+1,none⟩ (.int .i64 d)) B vt (.slice g lo.length co) lt (lo.set u ⟨o.id,d,o.up,o.b1,o.c1,o.data,o.jA,o.own,o.b2,o.c2⟩)/\(∃cur,Ai w g (.cells cur 51))/\B<=g:=by
 have hn:=h.on _ (List.getElem_mem hu);have hc:=h.oc _ (List.getElem_mem hu);rw[<-ho]at hn hc;obtain⟨k1,hcur,hg⟩:=h.setO (x:=⟨o.id,d,o.up,o.b1,o.c1,o.data,o.jA,o.own,o.b2,o.c2⟩) (u:= .int .i64 d) hu (i:=1) (by omega) (by rw[<-ho];rfl) hn hc;have el:(lo.set u (⟨o.id,d,o.up,o.b1,o.c1,o.data,o.jA,o.own,o.b2,o.c2⟩:Ae)).length=lo.length:=by simp
 rw[el]at k1;exact⟨k1,hcur,hg⟩
inductive Ll:List Af->List Ae->Prop
 |right {lt:List Af}{lo:List Ae} (h:KU lt lo=true):Ll lt lo
 |up {lt:List Af}{lo:List Ae} (h:KU lt lo=true) (u:Nat) (o:Ae) (d:Int) (hu:u<lo.length) (ho:o=lo[u]) (hd:Te d):Ll lt (lo.set u ⟨o.id,o.kind,d,o.b1,o.c1,o.data,o.jA,o.own,o.b2,o.c2⟩)
 |kind {lt:List Af}{lo:List Ae} (h:KU lt lo=true) (u:Nat) (o:Ae) (d:Int) (hu:u<lo.length) (ho:o=lo[u]) (hd:Te d):Ll lt (lo.set u ⟨o.id,d,o.up,o.b1,o.c1,o.data,o.jA,o.own,o.b2,o.c2⟩)
 |made {lt:List Af}{lo:List Ae} (h:KU lt lo=true) (X:Af) (d:Int) (ht:0<lt.length) (hX:X=lt[0]) (hd:Te d):Ll (lt.set 0 ⟨X.id,X.b1,X.c1,X.b2,X.c2,X.own,d⟩) lo
structure Lp(w0 w W:World)(rb:Nat)(a:Option Addr)(n cap:Nat)(C:Nat)(lt:List Af)(lo:List Ae)(g ca q co:Nat):Prop where
 rs:JH w0 w W rb a n cap
 z:Ai W w (.cells #[.slice none 0 0,.slice none 0 0] 27)
 k:Ai W C (.cells #[.slice g lt.length ca,.slice q lo.length co] 27)
 st:Cf W w (.slice g lt.length ca) (.slice q lo.length co) lt lo
section
variable {w0 w W W':World}{rb n cap C:Nat}{a:Option Addr}{lt:List Af}{lo:List Ae}{g ca q co:Nat}
theorem Lp.call(h:Lp w0 w W rb a n cap C lt lo g ca q co)(hr:rb<w.heap.size)(hC:w.heap.size<C)(r:Rd w0 W' rb a n cap)(gr:W.grownBy W' (some rb)):Lp w0 w W' rb a n cap C lt lo g ca q co:=
 ⟨h.rs.call r gr,h.z.grown gr (by simp;omega),h.k.grown gr (by simp;omega),h.st.jX gr hr⟩
theorem Lp.below(h:Lp w0 w W rb a n cap C lt lo g ca q co)(hb:Below W W W'):Lp w0 w W' rb a n cap C lt lo g ca q co:=⟨h.rs.below hb,h.z.below hb,h.k.below hb,h.st.below hb⟩
end
theorem Sz{P:Program}{ops:Array Oper}{Q:Exit->Act->World->Prop}{md:Region.Mode}{S:World->Prop}{m:Nat}{i j k:Nat}{o o' o'':Oper}{fuel:Nat}{listed:Array Bool}{a:Act}{w:World}(hr:Region.ready md ops listed=[i,j,k])(ho:ops[i]? =some o)(ho':ops[j]? =some o')(ho'':ops[k]? =some o'')
 (h:∀K':Act->World->Prop,Shut (∀a w,((listed.setIfInBounds i true).getD m false=false->S w)->Bu P md ops Q S m fuel (listed.setIfInBounds i true) a w->K' a w)->if Region.wanted o (yielded ops a.tmps)=true then Oper.wp P o a w K' Q else K' (a.put o.dst undef) w)
 (h':∀K':Act->World->Prop,Shut (∀a w,((listed.setIfInBounds j true).getD m false=false->S w)->Bu P md ops Q S m fuel (listed.setIfInBounds j true) a w->K' a w)->if Region.wanted o' (yielded ops a.tmps)=true then Oper.wp P o' a w K' Q else K' (a.put o'.dst undef) w)
 (h'':∀K':Act->World->Prop,Shut (∀a w,((listed.setIfInBounds k true).getD m false=false->S w)->Bu P md ops Q S m fuel (listed.setIfInBounds k true) a w->K' a w)->if Region.wanted o'' (yielded ops a.tmps)=true then Oper.wp P o'' a w K' Q else K' (a.put o''.dst undef) w):
 Bu P md ops Q S m (fuel+1) listed a w:=
 ⟨fun h0=>(by rw[hr]at h0;cases h0),fun x hk=>by
   rw[hr]at hk;rcases List.mem_cons.1 hk with rfl|hk
   ·exact wpOp_step ho (fun K' hK=>h K' (fun a w hS hW=>hK a w ⟨hS,hW⟩))
   ·rcases List.mem_cons.1 hk with rfl|hk
    ·exact wpOp_step ho' (fun K' hK=>h' K' (fun a w hS hW=>hK a w ⟨hS,hW⟩))
    ·obtain rfl:=List.mem_singleton.1 hk;exact wpOp_step ho'' (fun K' hK=>h'' K' (fun a w hS hW=>hK a w ⟨hS,hW⟩))⟩
theorem Mw{W:World}{P Q t t':Nat}{a b:Array Value}(h:Ai W P (.cells a t))(h':Ai W Q (.cells b t'))(ht:t≠t'):P≠Q:=fun e=>by
 subst e;unfold Ai at h h';rw[h]at h';simp only[Option.some.injEq,Obj.cells.injEq]at h';exact ht h'.2.1
theorem Ii(tmps:Array Value)(W:World)(P:Nat)(x y:Value)(h:Ai W P (.cells #[x,y] 27))(h2:tmps[4]? =some (.pointer P)):
 (results Tryz.f13 tmps).run prog W= .ok (.agg #[x,y]) W:=by
 obtain⟨z0,z1⟩:=h.two;simp[results,Tryz.results13,go_sem,h2,z0,z1]
theorem Ly(w0:World)(rb:Nat)(a:Option Addr)(n cap:Nat)(w:World)(h:Rd w0 w rb a n cap)(most:Nat)(hmost:most<=100):
 Calls prog 13 #[.pointer rb,.int .i64 (most:Int)] w fun e w'=>∃(lt:List Af) (lo:List Ae) (g ca q co:Nat),e= .returned (.agg #[.slice g lt.length ca,.slice q lo.length co])/\Cf w' w (.slice g lt.length ca) (.slice q lo.length co) lt lo/\Ll lt lo/\Rd w0 w' rb a n cap/\w.grownBy w' (some rb):=by
 have lr:=h.lt;have n4:No (.cells #[.slice none 0 0,.slice none 0 0] 27):=⟨⟩;have R0:=hid ((JH.refl h).alloc n4);have Z0:=hid (Ai.new w n4);clear h;go_enter func13,ntmps13
 go_wp2_with fail
 refine(Ax w0 rb a n cap 2 _ (by omega) R0.out.r).mono ?_;rintro e u1 ⟨x,rfl,_,hx,r1,g1⟩;have xl:=hx (by omega);have R1:=hid (R0.out.call r1 g1);have Z1:=hid (Z0.out.grown g1 (by simp;omega));have s1:w.heap.size+1<=u1.heap.size:=by have:=g1.size;simpa using this
 have w1_:IntKind.i64.wrap (2+(x:Int))=2+(x:Int):=by rw[IntKind.wrap_i64];omega
 clear r1 g1 hx R0 Z0;have C1:Hid (Calls prog 32 #[.int .i64 (2+(x:Int))] u1 fun e w'=>∃(lt:List Af) (lo:List Ae) (g ca q co:Nat),e= .returned (.tuple #[.agg #[.slice g lt.length ca,.slice q lo.length co],.bool true])/\KU lt lo=true/\Cf w' u1 (.slice g lt.length ca) (.slice q lo.length co) lt lo/\Below u1 u1 w'):=hid (by
  have h:=Qq (2+x) u1 (by omega) (by omega);have e:((2+x:Nat):Int)=2+(x:Int):=by omega
  rw[e]at h;refine h.mono ?_;rintro e w' ⟨ta,oa,ca,co,rfl,ks,hb⟩;obtain⟨g,q,rfl,rfl⟩:=ks.form (by rw[Gx];omega) (by simp);exact⟨F0 (2+x),[Qd],g,ca,q,co,rfl,aY (by omega) (by omega),ks,hb⟩)
 go_wp2_with fail
 refine C1.out.mono ?_;rintro e u2 ⟨lt,lo,g,ca,q,co,rfl,ok,ks,hb2⟩;have n1:No (.cells #[.slice g lt.length ca,.slice q lo.length co] 27):=⟨⟩;have K2:Hid (Lp w0 w (u2.alloc n1) rb a n cap u2 lt lo g ca q co):=hid (by
  have b:=(Below.refl _ u2).alloc nr n1;exact⟨(R1.out.below hb2).below b,(Z1.out.below hb2).below b,Ai.new u2 _,(ks.base (by omega)).below b⟩)
 have cC:w.heap.size<u2.heap.size:=by have:=hb2.size;omega
 have OK:=hid ok;clear ok ks hb2 C1 R1 Z1 w1_ s1 xl;obtain⟨mo1,em⟩:∃k,k=most+1:=⟨_,rfl⟩;have wm:IntKind.i64.wrap ((most:Int)+1)=(mo1:Int):=by rw[IntKind.wrap_i64];omega
 have EM:=hid em;clear em;go_wp2_with fail
 generalize u2.alloc n1=U2 at *;generalize u2.heap.size=C at *;refine(Ax w0 rb a n cap mo1 _ (by have:=EM.out;omega) K2.out.rs.r).mono ?_;rintro e u3 ⟨y,rfl,_,hy,r3,g3⟩;have yl:=hy (by have:=EM.out;omega);have K3:=hid (K2.out.call lr cC r3 g3);clear r3 g3 hy K2 wm;go_wp2_with fail
 go_loopw [7] (fun i wr=>∃(j:Nat) (lt:List Af) (lo:List Ae) (g ca q co:Nat),j<=100/\i= .int .i64 j/\KU lt lo=true/\Lp w0 w wr rb a n cap C lt lo g ca q co) (fun i _=>(intOf i).toNat)
 case atStart=>exact⟨y,lt,lo,g,ca,q,co,by have:=EM.out;omega,rfl,OK,K3⟩
 case round=>
  clear K3 OK;obtain⟨j,lt,lo,g,ca,q,co,hj,rfl,ok,kk⟩:=hrel;have OK:=hid ok;have KK:=hid kk;have tn:=Gn ok;have on:=FR ok;clear ok kk;obtain⟨k0,k1⟩:=KK.out.k.two;by_cases hlt:0<j
  ·have i1:(0:Int)<(j:Int):=(by omega);have i2:IntKind.i64.wrap ((j:Int)-1)=(j:Int)-1:=(by rw[IntKind.wrap_i64];omega);have HLT:=hid hlt;have DR:Hid (Lp w0 w wr.drew rb a n cap C lt lo g ca q co):=hid (KK.out.below (AE (Below.refl _ wr)));have E1:Hid (∀args w,(callFunc 35 args).run prog w= .ok (.enter 35 args) w):=hid (enters_of func35 (by kernel_rfl) rfl);have E2:Hid (∀args w,(callFunc 34 args).run prog w= .ok (.enter 34 args) w):=hid (enters_of func34 (by kernel_rfl) rfl);have n2:Na #[.slice g lt.length ca,.slice q lo.length co]:=⟨⟩;have FS:Hid (∀W,Lp w0 w W rb a n cap C lt lo g ca q co->Calls prog 35 #[.pointer rb,.agg n2] W fun e w'=>∃v,e= .returned v/\(∃s:Bd,v= .agg s/\s.at w'/\Lp w0 w w' rb a n cap C lt lo g ca q co)):=hid (fun W hW=>(Vm w0 rb a n cap W hW.rs.r lt lo g ca q co w hW.st lr (bO.of OK)).mono fun e w' ⟨s,e1,sa,r,g'⟩=>⟨_,e1,s,rfl,⟨sa.1.1,sa.2.1.1,Nat.le_trans sa.2.2 (by unfold maxLen;omega)⟩,hW.call lr cC r g'⟩);have FD:Hid (∀(s:Bd) (W:World),Lp w0 w W rb a n cap C lt lo g ca q co->s.at W->Calls prog 34 #[.agg n2,.agg s] W fun e w'=>∃v,e= .returned v/\(∃(lt':List Af) (lo':List Ae) (ta:Option Addr) (ca':Nat) (oa:Option Addr) (co':Nat) (c:Int) (tx:ByteArray),v= .tuple #[.agg #[.slice ta lt'.length ca',.slice oa lo'.length co'],.int .i64 c,.string tx]/\KU lt' lo'=true/\Cf w' w (.slice ta lt'.length ca') (.slice oa lo'.length co') lt' lo'/\Lp w0 w w' rb a n cap C lt lo g ca q co)):=hid (fun s W hW sa=>by
    refine(Tk (Dm (some ⟨g,0,none⟩) ca (some ⟨q,0,none⟩) co lt lo) W (hW.st.at (by omega) (by omega) (Hs OK)) OK s sa).mono ?_;rintro e w' ⟨lt1,lo1,lt',lo',ta,ca',oa,co',c,tx,e1,k1,hb,sm,dp⟩;have ok1:KU lt1 lo1=true:=(Du sm).trans OK.out;exact⟨_,e1,lt',lo',ta,ca',oa,co',c,tx,rfl,Zw ok1 dp,k1.base hW.rs.g.size,hW.below hb⟩)
   go_wp2_with fail
   clear k0 k1;refine Av 9 (fun W=>Lp w0 w W rb a n cap C lt lo g ca q co) (by kernel_rfl) ?_;refine tr 0 24 (.agg n2) DR ?_ (hy:=fun W h=>by obtain⟨z0,z1⟩:=h.k.two;go_simp);refine tr 1 25 (.pointer rb) DR ?_;refine tr 2 26 (.agg n2) DR ?_ (hy:=fun W h=>by obtain⟨z0,z1⟩:=h.k.two;go_simp);generalize wr.drew=WD at *;refine Ab (i:=3) (by kernel_rfl) rfl ?_;intro K hK;refine Bc (by rfl) 35 _ _ _ (by rfl) E1 _ _ (by rfl) (by rfl) (some 27) (by rfl) _ (FS _ DR) ?_;rintro v w2 ⟨s,rfl,sa,hS⟩;have H1:=hid hS;have SA:=hid sa;refine hK _ _ (fun _=>H1) ?_;clear hK K hS sa;simp only[ap,List.set];refine Ab (i:=4) (by kernel_rfl) rfl ?_;intro K hK;refine Bc (by rfl) 34 _ _ _ (by rfl) E2 _ _ (by rfl) (by rfl) (some 28) (by rfl) _ (FD _ _ H1 SA) ?_;rintro v w3 ⟨lt',lo',ta,ca',oa,co',c,tx,rfl,ok',k3,hS⟩;have H2:=hid hS;have OK':=hid ok';have K3:=hid k3;refine hK _ _ (fun _=>H2) ?_;clear hK K hS ok' k3;simp only[ap,List.set];have n3:Na #[.slice ta lt'.length ca',.slice oa lo'.length co']:=⟨⟩;refine tr 5 23 (.tuple #[.agg n3,.int .i64 c,.string tx]) H2 ?_;refine tr 6 29 (.agg n3) H2 ?_;obtain⟨k0,k1⟩:=H2.out.k.two;have kf:=H2.out.k.jC;refine Sz (i:=7) (j:=8) (k:=9) (by kernel_rfl) rfl rfl rfl ?_ ?_ ?_
   ·intro K hK;go_simp;refine hK _ _ (fun _=>H2) ?_;clear hK K;try simp only[ap,List.set]
    refine Gs (i:=8) (j:=9) (by kernel_rfl) rfl rfl ?_ ?_
    ·intro K hK;go_simp;refine hK _ _ (fun _=>H2) ?_;clear hK K;try simp only[ap,List.set]
     refine Ab (i:=9) (by kernel_rfl) rfl ?_;intro K hK;go_simp;refine hK _ _ (fun h=>absurd h (by decide)) ?_;clear hK K;try simp only[ap,List.set]
     refine Ao (by kernel_rfl) ?_ _;go_wp2_with fail
     go_roundw;case rel=>
      obtain⟨g',q',rfl,rfl⟩:=K3.out.form (by have:=Gn OK'.out;omega) (by have:=FR OK'.out;omega);refine⟨j-1,lt',lo',g',ca',q',co',by omega,by go_num,OK',?_⟩;exact⟨(H2.out.rs.set lr (by omega) 0 _).set lr (by omega) 1 _,(H2.out.z.other (by omega) _).other (by omega) _,(H2.out.k.jB (i:=0) _).jB (i:=1) _,(K3.out.set H2.out.k (.inl rfl) _).set (H2.out.k.jB (i:=0) _) (.inl rfl) _⟩
     case measure=>have:=HLT.out;simp[intOf];omega
    ·intro K hK;go_simp;refine hK _ _ (fun h=>absurd h (by decide)) ?_;clear hK K;try simp only[ap,List.set]
     refine Ab (i:=8) (by kernel_rfl) rfl ?_;intro K hK;go_simp;refine hK _ _ (fun h=>absurd h (by decide)) ?_;clear hK K;try simp only[ap,List.set]
     refine Ao (by kernel_rfl) ?_ _;go_wp2_with fail
     go_roundw;case rel=>
      obtain⟨g',q',rfl,rfl⟩:=K3.out.form (by have:=Gn OK'.out;omega) (by have:=FR OK'.out;omega);refine⟨j-1,lt',lo',g',ca',q',co',by omega,by go_num,OK',?_⟩;exact⟨(H2.out.rs.set lr (by omega) 0 _).set lr (by omega) 1 _,(H2.out.z.other (by omega) _).other (by omega) _,(H2.out.k.jB (i:=0) _).jB (i:=1) _,(K3.out.set H2.out.k (.inl rfl) _).set (H2.out.k.jB (i:=0) _) (.inl rfl) _⟩
     case measure=>have:=HLT.out;simp[intOf];omega
   ·intro K hK;go_simp;refine hK _ _ (fun _=>H2) ?_;clear hK K;try simp only[ap,List.set]
    refine Gs (i:=7) (j:=9) (by kernel_rfl) rfl rfl ?_ ?_
    ·intro K hK;go_simp;refine hK _ _ (fun _=>H2) ?_;clear hK K;try simp only[ap,List.set]
     refine Ab (i:=9) (by kernel_rfl) rfl ?_;intro K hK;go_simp;refine hK _ _ (fun h=>absurd h (by decide)) ?_;clear hK K;try simp only[ap,List.set]
     refine Ao (by kernel_rfl) ?_ _;go_wp2_with fail
     go_roundw;case rel=>
      obtain⟨g',q',rfl,rfl⟩:=K3.out.form (by have:=Gn OK'.out;omega) (by have:=FR OK'.out;omega);refine⟨j-1,lt',lo',g',ca',q',co',by omega,by go_num,OK',?_⟩;exact⟨(H2.out.rs.set lr (by omega) 0 _).set lr (by omega) 1 _,(H2.out.z.other (by omega) _).other (by omega) _,(H2.out.k.jB (i:=0) _).jB (i:=1) _,(K3.out.set H2.out.k (.inl rfl) _).set (H2.out.k.jB (i:=0) _) (.inl rfl) _⟩
     case measure=>have:=HLT.out;simp[intOf];omega
    ·intro K hK;go_simp;refine hK _ _ (fun h=>absurd h (by decide)) ?_;clear hK K;try simp only[ap,List.set]
     refine Ab (i:=7) (by kernel_rfl) rfl ?_;intro K hK;go_simp;refine hK _ _ (fun h=>absurd h (by decide)) ?_;clear hK K;try simp only[ap,List.set]
     refine Ao (by kernel_rfl) ?_ _;go_wp2_with fail
     go_roundw;case rel=>
      obtain⟨g',q',rfl,rfl⟩:=K3.out.form (by have:=Gn OK'.out;omega) (by have:=FR OK'.out;omega);refine⟨j-1,lt',lo',g',ca',q',co',by omega,by go_num,OK',?_⟩;exact⟨(H2.out.rs.set lr (by omega) 0 _).set lr (by omega) 1 _,(H2.out.z.other (by omega) _).other (by omega) _,(H2.out.k.jB (i:=0) _).jB (i:=1) _,(K3.out.set H2.out.k (.inl rfl) _).set (H2.out.k.jB (i:=0) _) (.inl rfl) _⟩
     case measure=>have:=HLT.out;simp[intOf];omega
   ·intro K hK;go_simp;refine hK _ _ (fun h=>absurd h (by decide)) ?_;clear hK K;try simp only[ap,List.set]
    refine Gs (i:=7) (j:=8) (by kernel_rfl) rfl rfl ?_ ?_
    ·intro K hK;go_simp;refine hK _ _ (fun h=>absurd h (by decide)) ?_;clear hK K;try simp only[ap,List.set]
     refine Ab (i:=8) (by kernel_rfl) rfl ?_;intro K hK;go_simp;refine hK _ _ (fun h=>absurd h (by decide)) ?_;clear hK K;try simp only[ap,List.set]
     refine Ao (by kernel_rfl) ?_ _;go_wp2_with fail
     go_roundw;case rel=>
      obtain⟨g',q',rfl,rfl⟩:=K3.out.form (by have:=Gn OK'.out;omega) (by have:=FR OK'.out;omega);refine⟨j-1,lt',lo',g',ca',q',co',by omega,by go_num,OK',?_⟩;exact⟨(H2.out.rs.set lr (by omega) 0 _).set lr (by omega) 1 _,(H2.out.z.other (by omega) _).other (by omega) _,(H2.out.k.jB (i:=0) _).jB (i:=1) _,(K3.out.set H2.out.k (.inl rfl) _).set (H2.out.k.jB (i:=0) _) (.inl rfl) _⟩
     case measure=>have:=HLT.out;simp[intOf];omega
    ·intro K hK;go_simp;refine hK _ _ (fun h=>absurd h (by decide)) ?_;clear hK K;try simp only[ap,List.set]
     refine Ab (i:=7) (by kernel_rfl) rfl ?_;intro K hK;go_simp;refine hK _ _ (fun h=>absurd h (by decide)) ?_;clear hK K;try simp only[ap,List.set]
     refine Ao (by kernel_rfl) ?_ _;go_wp2_with fail
     go_roundw;case rel=>
      obtain⟨g',q',rfl,rfl⟩:=K3.out.form (by have:=Gn OK'.out;omega) (by have:=FR OK'.out;omega);refine⟨j-1,lt',lo',g',ca',q',co',by omega,by go_num,OK',?_⟩;exact⟨(H2.out.rs.set lr (by omega) 0 _).set lr (by omega) 1 _,(H2.out.z.other (by omega) _).other (by omega) _,(H2.out.k.jB (i:=0) _).jB (i:=1) _,(K3.out.set H2.out.k (.inl rfl) _).set (H2.out.k.jB (i:=0) _) (.inl rfl) _⟩
     case measure=>have:=HLT.out;simp[intOf];omega
  ·obtain rfl:j=0:=by omega
   have i1:¬(0:Int)<((0:Nat):Int):=(by omega);go_wp2_with fail
   refine(Ax w0 rb a n cap 40 _ (by omega) KK.out.rs.r).mono ?_;rintro e u4 ⟨x3,rfl,_,hx3,r4,g4⟩;have KX:=hid (KK.out.call lr cC r4 g4);clear r4 g4 hx3 KK k0 k1;obtain⟨k0,k1⟩:=KX.out.k.two;by_cases h39:x3=39
   ·subst h39;go_wp2_with fail
    clear k0 k1;have DR:Hid (Lp w0 w u4.drew rb a n cap C lt lo g ca q co):=hid (KX.out.below (AE (Below.refl _ u4)));have E1:Hid (∀args w,(callFunc 33 args).run prog w= .ok (.enter 33 args) w):=hid (enters_of func33 (by kernel_rfl) rfl);have E2:Hid (∀args w,(callFunc 36 args).run prog w= .ok (.enter 36 args) w):=hid (enters_of func36 (by kernel_rfl) rfl);have FB:Hid (∀W,Lp w0 w W rb a n cap C lt lo g ca q co->Calls prog 33 #[.pointer rb,.int .i64 (lo.length:Int)] W fun e w'=>∃v,e= .returned v/\(∃u:Nat,v= .int .i64 (u:Int)/\u<lo.length/\Lp w0 w w' rb a n cap C lt lo g ca q co)):=hid (fun W hW=>(Ax w0 rb a n cap lo.length W (by omega) hW.rs.r).mono fun e w' ⟨x,e1,_,hx,r,g'⟩=>⟨_,e1,x,rfl,hx (by omega),hW.call lr cC r g'⟩);have FO:Hid (∀W,Lp w0 w W rb a n cap C lt lo g ca q co->Calls prog 36 #[.pointer rb,.int .i64 0,.int .i64 2] W fun e w'=>∃v,e= .returned v/\(∃x:Int,v= .int .i64 x/\Te x/\Lp w0 w w' rb a n cap C lt lo g ca q co)):=hid (fun W hW=>(Tb w0 rb a n cap 0 2 W (by omega) (by omega) hW.rs.r).mono fun e w' ⟨x,e1,hx,r,g'⟩=>⟨_,e1,x,rfl,hx,hW.call lr cC r g'⟩);refine Av 11 (fun W=>Lp w0 w W rb a n cap C lt lo g ca q co) (by kernel_rfl) ?_;have n9:Nv (.pointer (some ⟨C,1,none⟩)):=⟨⟩;refine tr 0 36 n9 DR ?_;have n5:Nv (.slice q lo.length co):=⟨⟩;refine tr 1 37 n5 DR ?_ (hy:=fun W h=>by obtain⟨z0,z1⟩:=h.k.two;go_simp);have n7:Nv (.pointer rb):=⟨⟩;refine tr 2 38 n7 DR ?_;refine tr 3 39 n9 DR ?_;refine tr 4 40 n5 DR ?_ (hy:=fun W h=>by obtain⟨z0,z1⟩:=h.k.two;go_simp);refine tr 5 41 (.int .i64 (lo.length:Int)) DR ?_;refine tr 7 43 n7 DR ?_;generalize u4.drew=WD at *;refine Ab (i:=6) (by kernel_rfl) rfl ?_;intro K hK;refine Bc (by rfl) 33 _ _ _ (by rfl) E1 _ _ (by rfl) (by rfl) (some 42) (by rfl) _ (FB _ DR) ?_;rintro v w2 ⟨u,rfl,ul,hS⟩;have H1:=hid hS;refine hK _ _ (fun _=>H1) ?_;clear hK K hS;simp only[ap,List.set];have j1:(u:Int)<(lo.length:Int):=(by omega);have j2:(0:Int)<=(u:Int):=(by omega);refine Ab (i:=8) (by kernel_rfl) rfl ?_;intro K hK;refine Fz (by rfl) 36 _ _ _ _ (by rfl) E2 _ _ _ (by rfl) (by rfl) (by rfl) (some 44) (by rfl) _ (FO _ H1) ?_;rintro v w3 ⟨dd,rfl,hdd,hS⟩;have H2:=hid hS;refine hK _ _ (fun _=>H2) ?_;clear hK K hS;simp only[ap,List.set];refine Ab (i:=9) (by kernel_rfl) rfl ?_;intro K hK;go_simp;refine hK _ _ (fun _=>H2) ?_;clear hK K;try simp only[ap,List.set]
    refine tr 10 46 (.pointer (some ⟨q,u*10+2,none⟩)) H2 ?_;obtain⟨o,eo⟩:∃o,o=lo[u]:=⟨_,rfl⟩;have EO:=hid eo;have GF:=hid (H2.out.st.setUp (d:=dd) ul EO);have gf:=GF.out.2.1.choose_spec.jC;have CC:=(H2.out.st.jF ul (Hs OK)).1;rw[<-eo]at CC;clear eo;have q0:=CC.c0;have q1:=CC.c1;have q2:=CC.c2;have q3:=CC.c3;have q4:=CC.c4;have q5:=CC.c5;have q6:=CC.c6;have q7:=CC.c7;have q8:=CC.c8;have q9:=CC.c9;clear CC;refine Ab (i:=11) (by kernel_rfl) rfl ?_;intro K hK;go_simp;refine hK _ _ (fun h=>absurd h (by decide)) ?_;clear hK K;try simp only[ap,List.set]
    refine Ao (by kernel_rfl) ?_ _;clear q0 q1 q2 q3 q4 q5 q6 q7 q8 q9 gf;have nC:q≠C:=Mw GF.out.2.1.choose_spec H2.out.k (by decide);have nZ:q≠w.heap.size:=Mw GF.out.2.1.choose_spec H2.out.z (by decide);have Z4:=hid (H2.out.z.other (Q:=q) nZ (i:=u*10+2) (.int .i64 dd));have K4:=hid (H2.out.k.other (Q:=q) nC (i:=u*10+2) (.int .i64 dd));have S4:=hid GF.out.1;have R4:=hid (H2.out.rs.set lr GF.out.2.2 (u*10+2) (.int .i64 dd));generalize (w3.setCell ⟨q,u*10+2,none⟩ (.int .i64 dd))=W4 at *;obtain⟨LO,eLO⟩:∃l,l=lo.set u ⟨o.id,o.kind,dd,o.b1,o.c1,o.data,o.jA,o.own,o.b2,o.c2⟩:=⟨_,rfl⟩;have hl:LO.length=lo.length:=(by rw[eLO];simp);rw[<-eLO]at S4;have KD:Hid (Ll lt LO):=hid (by rw[eLO];exact Ll.up OK u o dd ul EO hdd);have HL:=hid hl;clear eLO GF hl;obtain⟨f0,f1⟩:=K4.out.two;obtain⟨z0,z1⟩:=Z4.out.two;have zf:=Z4.out.jC;go_wp2;refine bodyPost_ret (Ii _ _ w _ _ ((Z4.out.jB (i:=0) _).jB (i:=1) _) rfl) rfl ⟨lt,LO,g,ca,q,co,by rw[HL.out],?_,KD,?_,?_⟩
    ·rw[HL.out];exact(S4.out.set Z4 (.inl rfl) _).set (Z4.out.jB (i:=0) _) (.inl rfl) _
    ·exact((R4.out.set lr nr 0 _).set lr nr 1 _).r
    ·exact((R4.out.set lr nr 0 _).set lr nr 1 _).g
   by_cases h38:x3=38
   ·subst h38;go_wp2_with fail
    clear k0 k1;have DR:Hid (Lp w0 w u4.drew rb a n cap C lt lo g ca q co):=hid (KX.out.below (AE (Below.refl _ u4)));have E2:Hid (∀args w,(callFunc 36 args).run prog w= .ok (.enter 36 args) w):=hid (enters_of func36 (by kernel_rfl) rfl);have t0:0<lt.length:=(by omega);have t1:(0:Int)<(lt.length:Int):=(by omega);have FO:Hid (∀W,Lp w0 w W rb a n cap C lt lo g ca q co->Calls prog 36 #[.pointer rb,.int .i64 0,.int .i64 3] W fun e w'=>∃v,e= .returned v/\(∃x:Int,v= .int .i64 x/\Te x/\Lp w0 w w' rb a n cap C lt lo g ca q co)):=hid (fun W hW=>(Tb w0 rb a n cap 0 3 W (by omega) (by omega) hW.rs.r).mono fun e w' ⟨x,e1,hx,r,g'⟩=>⟨_,e1,x,rfl,hx,hW.call lr cC r g'⟩);refine Av 6 (fun W=>Lp w0 w W rb a n cap C lt lo g ca q co) (by kernel_rfl) ?_;refine tr 0 49 (.pointer C) DR ?_;refine tr 1 50 (.slice g lt.length ca) DR ?_ (hy:=fun W h=>by obtain⟨z0,z1⟩:=h.k.two;go_simp);refine tr 2 51 (.pointer rb) DR ?_;generalize u4.drew=WD at *;refine Ab (i:=3) (by kernel_rfl) rfl ?_;intro K hK;refine Fz (by rfl) 36 _ _ _ _ (by rfl) E2 _ _ _ (by rfl) (by rfl) (by rfl) (some 52) (by rfl) _ (FO _ DR) ?_;rintro v w3 ⟨dd,rfl,hdd,hS⟩;have H2:=hid hS;refine hK _ _ (fun _=>H2) ?_;clear hK K hS;simp only[ap,List.set];refine Ab (i:=4) (by kernel_rfl) rfl ?_;intro K hK;go_simp;refine hK _ _ (fun _=>H2) ?_;clear hK K;try simp only[ap,List.set]
    refine tr 5 54 (.pointer (some ⟨g,6,none⟩)) H2 ?_;obtain⟨X,eX⟩:∃X,X=lt[0]:=⟨_,rfl⟩;have EX:=hid eX;have GF:=hid (H2.out.st.setMade (m:=dd) t0 EX);rw[Nat.zero_mul,Nat.zero_add]at GF;have gf:=GF.out.2.1.choose_spec.jC;have CC:=(H2.out.st.jJ t0).1;rw[<-eX]at CC;clear eX;have q0:=CC.c0;have q1:=CC.c1;have q2:=CC.c2;have q3:=CC.c3;have q4:=CC.c4;have q5:=CC.c5;have q6:=CC.c6;clear CC;simp only[Nat.zero_mul,Nat.zero_add]at q0 q1 q2 q3 q4 q5 q6;refine Ab (i:=6) (by kernel_rfl) rfl ?_;intro K hK;go_simp;refine hK _ _ (fun h=>absurd h (by decide)) ?_;clear hK K;try simp only[ap,List.set]
    refine Ao (by kernel_rfl) ?_ _;clear q0 q1 q2 q3 q4 q5 q6 gf;have nC:g≠C:=Mw GF.out.2.1.choose_spec H2.out.k (by decide);have nZ:g≠w.heap.size:=Mw GF.out.2.1.choose_spec H2.out.z (by decide);have Z4:=hid (H2.out.z.other (Q:=g) nZ (i:=6) (.int .i64 dd));have K4:=hid (H2.out.k.other (Q:=g) nC (i:=6) (.int .i64 dd));have S4:=hid GF.out.1;have R4:=hid (H2.out.rs.set lr GF.out.2.2 6 (.int .i64 dd));generalize (w3.setCell ⟨g,6,none⟩ (.int .i64 dd))=W4 at *;obtain⟨LT_,eLT⟩:∃l,l=lt.set 0 ⟨X.id,X.b1,X.c1,X.b2,X.c2,X.own,dd⟩:=⟨_,rfl⟩;have hl:LT_.length=lt.length:=(by rw[eLT];simp);rw[<-eLT]at S4;have KD:Hid (Ll LT_ lo):=hid (by rw[eLT];exact Ll.made OK X dd t0 EX hdd);have HL:=hid hl;clear eLT GF hl;obtain⟨f0,f1⟩:=K4.out.two;obtain⟨z0,z1⟩:=Z4.out.two;have zf:=Z4.out.jC;go_wp2;refine bodyPost_ret (Ii _ _ w _ _ ((Z4.out.jB (i:=0) _).jB (i:=1) _) rfl) rfl ⟨LT_,lo,g,ca,q,co,by rw[HL.out],?_,KD,?_,?_⟩
    ·rw[HL.out];exact(S4.out.set Z4 (.inl rfl) _).set (Z4.out.jB (i:=0) _) (.inl rfl) _
    ·exact((R4.out.set lr nr 0 _).set lr nr 1 _).r
    ·exact((R4.out.set lr nr 0 _).set lr nr 1 _).g
   by_cases h37:x3=37
   ·subst h37;go_wp2_with fail
    clear k0 k1;have DR:Hid (Lp w0 w u4.drew rb a n cap C lt lo g ca q co):=hid (KX.out.below (AE (Below.refl _ u4)));have E1:Hid (∀args w,(callFunc 33 args).run prog w= .ok (.enter 33 args) w):=hid (enters_of func33 (by kernel_rfl) rfl);have E2:Hid (∀args w,(callFunc 36 args).run prog w= .ok (.enter 36 args) w):=hid (enters_of func36 (by kernel_rfl) rfl);have FB:Hid (∀W,Lp w0 w W rb a n cap C lt lo g ca q co->Calls prog 33 #[.pointer rb,.int .i64 (lo.length:Int)] W fun e w'=>∃v,e= .returned v/\(∃u:Nat,v= .int .i64 (u:Int)/\u<lo.length/\Lp w0 w w' rb a n cap C lt lo g ca q co)):=hid (fun W hW=>(Ax w0 rb a n cap lo.length W (by omega) hW.rs.r).mono fun e w' ⟨x,e1,_,hx,r,g'⟩=>⟨_,e1,x,rfl,hx (by omega),hW.call lr cC r g'⟩);have FO:Hid (∀W,Lp w0 w W rb a n cap C lt lo g ca q co->Calls prog 36 #[.pointer rb,.int .i64 1,.int .i64 4] W fun e w'=>∃v,e= .returned v/\(∃x:Int,v= .int .i64 x/\Te x/\Lp w0 w w' rb a n cap C lt lo g ca q co)):=hid (fun W hW=>(Tb w0 rb a n cap 1 4 W (by omega) (by omega) hW.rs.r).mono fun e w' ⟨x,e1,hx,r,g'⟩=>⟨_,e1,x,rfl,hx,hW.call lr cC r g'⟩);refine Av 11 (fun W=>Lp w0 w W rb a n cap C lt lo g ca q co) (by kernel_rfl) ?_;have n10:Nv (.pointer (some ⟨C,1,none⟩)):=⟨⟩;refine tr 0 57 n10 DR ?_;have n6:Nv (.slice q lo.length co):=⟨⟩;refine tr 1 58 n6 DR ?_ (hy:=fun W h=>by obtain⟨z0,z1⟩:=h.k.two;go_simp);have n8:Nv (.pointer rb):=⟨⟩;refine tr 2 59 n8 DR ?_;refine tr 3 60 n10 DR ?_;refine tr 4 61 n6 DR ?_ (hy:=fun W h=>by obtain⟨z0,z1⟩:=h.k.two;go_simp);refine tr 5 62 (.int .i64 (lo.length:Int)) DR ?_;refine tr 7 64 n8 DR ?_;generalize u4.drew=WD at *;refine Ab (i:=6) (by kernel_rfl) rfl ?_;intro K hK;refine Bc (by rfl) 33 _ _ _ (by rfl) E1 _ _ (by rfl) (by rfl) (some 63) (by rfl) _ (FB _ DR) ?_;rintro v w2 ⟨u,rfl,ul,hS⟩;have H1:=hid hS;refine hK _ _ (fun _=>H1) ?_;clear hK K hS;simp only[ap,List.set];have j1:(u:Int)<(lo.length:Int):=(by omega);have j2:(0:Int)<=(u:Int):=(by omega);refine Ab (i:=8) (by kernel_rfl) rfl ?_;intro K hK;refine Fz (by rfl) 36 _ _ _ _ (by rfl) E2 _ _ _ (by rfl) (by rfl) (by rfl) (some 65) (by rfl) _ (FO _ H1) ?_;rintro v w3 ⟨dd,rfl,hdd,hS⟩;have H2:=hid hS;refine hK _ _ (fun _=>H2) ?_;clear hK K hS;simp only[ap,List.set];refine Ab (i:=9) (by kernel_rfl) rfl ?_;intro K hK;go_simp;refine hK _ _ (fun _=>H2) ?_;clear hK K;try simp only[ap,List.set]
    refine tr 10 67 (.pointer (some ⟨q,u*10+1,none⟩)) H2 ?_;obtain⟨o,eo⟩:∃o,o=lo[u]:=⟨_,rfl⟩;have EO:=hid eo;have GF:=hid (H2.out.st.setKind (d:=dd) ul EO);have gf:=GF.out.2.1.choose_spec.jC;have CC:=(H2.out.st.jF ul (Hs OK)).1;rw[<-eo]at CC;clear eo;have q0:=CC.c0;have q1:=CC.c1;have q2:=CC.c2;have q3:=CC.c3;have q4:=CC.c4;have q5:=CC.c5;have q6:=CC.c6;have q7:=CC.c7;have q8:=CC.c8;have q9:=CC.c9;clear CC;refine Ab (i:=11) (by kernel_rfl) rfl ?_;intro K hK;go_simp;refine hK _ _ (fun h=>absurd h (by decide)) ?_;clear hK K;try simp only[ap,List.set]
    refine Ao (by kernel_rfl) ?_ _;clear q0 q1 q2 q3 q4 q5 q6 q7 q8 q9 gf;have nC:q≠C:=Mw GF.out.2.1.choose_spec H2.out.k (by decide);have nZ:q≠w.heap.size:=Mw GF.out.2.1.choose_spec H2.out.z (by decide);have Z4:=hid (H2.out.z.other (Q:=q) nZ (i:=u*10+1) (.int .i64 dd));have K4:=hid (H2.out.k.other (Q:=q) nC (i:=u*10+1) (.int .i64 dd));have S4:=hid GF.out.1;have R4:=hid (H2.out.rs.set lr GF.out.2.2 (u*10+1) (.int .i64 dd));generalize (w3.setCell ⟨q,u*10+1,none⟩ (.int .i64 dd))=W4 at *;obtain⟨LO,eLO⟩:∃l,l=lo.set u ⟨o.id,dd,o.up,o.b1,o.c1,o.data,o.jA,o.own,o.b2,o.c2⟩:=⟨_,rfl⟩;have hl:LO.length=lo.length:=(by rw[eLO];simp);rw[<-eLO]at S4;have KD:Hid (Ll lt LO):=hid (by rw[eLO];exact Ll.kind OK u o dd ul EO hdd);have HL:=hid hl;clear eLO GF hl;obtain⟨f0,f1⟩:=K4.out.two;obtain⟨z0,z1⟩:=Z4.out.two;have zf:=Z4.out.jC;go_wp2;refine bodyPost_ret (Ii _ _ w _ _ ((Z4.out.jB (i:=0) _).jB (i:=1) _) rfl) rfl ⟨lt,LO,g,ca,q,co,by rw[HL.out],?_,KD,?_,?_⟩
    ·rw[HL.out];exact(S4.out.set Z4 (.inl rfl) _).set (Z4.out.jB (i:=0) _) (.inl rfl) _
    ·exact((R4.out.set lr nr 0 _).set lr nr 1 _).r
    ·exact((R4.out.set lr nr 0 _).set lr nr 1 _).g
   have b39:(((x3:Nat):Int)==39)=false:=(by simp only[beq_eq_false_iff_ne,ne_eq];omega);have c39:decide (((x3:Nat):Int)=39)=false:=decide_eq_false (by omega);have b38:(((x3:Nat):Int)==38)=false:=(by simp only[beq_eq_false_iff_ne,ne_eq];omega);have c38:decide (((x3:Nat):Int)=38)=false:=decide_eq_false (by omega);have b37:(((x3:Nat):Int)==37)=false:=(by simp only[beq_eq_false_iff_ne,ne_eq];omega);have c37:decide (((x3:Nat):Int)=37)=false:=decide_eq_false (by omega);clear k0 k1 h39 h38 h37;obtain⟨f0,f1⟩:=KX.out.k.two;obtain⟨z0,z1⟩:=KX.out.z.two;have zf:=KX.out.z.jC;go_wp2;refine bodyPost_ret (Ii _ _ w _ _ ((KX.out.z.jB (i:=0) _).jB (i:=1) _) rfl) rfl ⟨lt,lo,g,ca,q,co,rfl,?_,Ll.right OK,?_,?_⟩
   ·exact(KX.out.st.set KX.out.z (.inl rfl) _).set (KX.out.z.jB (i:=0) _) (.inl rfl) _
   ·exact((KX.out.rs.set lr nr 0 _).set lr nr 1 _).r
   ·exact((KX.out.rs.set lr nr 0 _).set lr nr 1 _).g
end Go.Proofs.YtblapfnglojgjaaGreatDoor
