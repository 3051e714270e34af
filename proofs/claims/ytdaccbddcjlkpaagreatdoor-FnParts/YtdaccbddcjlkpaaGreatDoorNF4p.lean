import Derived.Test.YtdaccbddcjlkpaaGreatDoorNF2p
import Derived.Test.YtdaccbddcjlkpaaGreatDoorZ23p
set_option maxRecDepth 100000
set_option maxHeartbeats 16000000
namespace Go.Proofs.YtdaccbddcjlkpaaGreatDoor
open Go Go.RowKit Go.Deep Go.Maps Go.BigFrame Go.Shelf Go.Proofs.Tryz
open Go.Value renaming slice→qV,pointer→pT,int→iT
open Go.IntKind renaming i64→qH
open Go.Obj renaming cells→qG
open Go.Ending renaming returned→rT
open _root_.List renaming set→qF,getElem_mem→qk,mem_cons→kK
open Go.Region renaming wanted→jW
open _root_.Nat renaming zero_add→jx
open Go renaming World→qM,Calls→qP
theorem Bz.setUp{w:qM}{B g co:Nat}{vt:Value}{lt:List Ae}{lo:List Ab}(h:Bz w B vt (qV g lo.length co) lt lo){u:Nat}{d:Int}(hu:u<lo.length){o:Ab}(ho:o=lo[u]):
 Bz (w.setCell ⟨g,u*10+2,none⟩ (iT qH d)) B vt (qV g lo.length co) lt (lo.set u ⟨o.id,o.kind,d,o.b1,o.c1,o.data,o.jA,o.own,o.b2,o.c2⟩)/\(∃cur,Ag w g (qG cur 59))/\B<=g:=by
 have hn:=h.on _ (qk hu);have hc:=h.oc _ (qk hu);rw[<-ho]at hn hc;obtain⟨k1,hcur,hg⟩:=h.setO (x:=⟨o.id,o.kind,d,o.b1,o.c1,o.data,o.jA,o.own,o.b2,o.c2⟩) (u:= iT qH d) hu (i:=2) qQ (by rw[<-ho];rfl) hn hc;have el:(lo.set u (⟨o.id,o.kind,d,o.b1,o.c1,o.data,o.jA,o.own,o.b2,o.c2⟩:Ab)).length=lo.length:=by simp
 rw[el]at k1;exact⟨k1,hcur,hg⟩
theorem Bz.setKind{w:qM}{B g co:Nat}{vt:Value}{lt:List Ae}{lo:List Ab}(h:Bz w B vt (qV g lo.length co) lt lo){u:Nat}{d:Int}(hu:u<lo.length){o:Ab}(ho:o=lo[u]):
 Bz (w.setCell ⟨g,u*10+1,none⟩ (iT qH d)) B vt (qV g lo.length co) lt (lo.set u ⟨o.id,d,o.up,o.b1,o.c1,o.data,o.jA,o.own,o.b2,o.c2⟩)/\(∃cur,Ag w g (qG cur 59))/\B<=g:=by
 have hn:=h.on _ (qk hu);have hc:=h.oc _ (qk hu);rw[<-ho]at hn hc;obtain⟨k1,hcur,hg⟩:=h.setO (x:=⟨o.id,d,o.up,o.b1,o.c1,o.data,o.jA,o.own,o.b2,o.c2⟩) (u:= iT qH d) hu (i:=1) qQ (by rw[<-ho];rfl) hn hc;have el:(lo.set u (⟨o.id,d,o.up,o.b1,o.c1,o.data,o.jA,o.own,o.b2,o.c2⟩:Ab)).length=lo.length:=by simp
 rw[el]at k1;exact⟨k1,hcur,hg⟩
inductive Jn:List Ae->List Ab->Prop
 |right {lt:List Ae}{lo:List Ab} (h:okL lt lo=true):Jn lt lo
 |up {lt:List Ae}{lo:List Ab} (h:okL lt lo=true) (u:Nat) (o:Ab) (d:Int) (hu:u<lo.length) (ho:o=lo[u]) (hd:Tb d):Jn lt (lo.set u ⟨o.id,o.kind,d,o.b1,o.c1,o.data,o.jA,o.own,o.b2,o.c2⟩)
 |kind {lt:List Ae}{lo:List Ab} (h:okL lt lo=true) (u:Nat) (o:Ab) (d:Int) (hu:u<lo.length) (ho:o=lo[u]) (hd:Tb d):Jn lt (lo.set u ⟨o.id,d,o.up,o.b1,o.c1,o.data,o.jA,o.own,o.b2,o.c2⟩)
 |made {lt:List Ae}{lo:List Ab} (h:okL lt lo=true) (X:Ae) (d:Int) (ht:0<lt.length) (hX:X=lt[0]) (hd:Tb d):Jn (lt.set 0 ⟨X.id,X.b1,X.c1,X.b2,X.c2,X.own,d⟩) lo
structure Lj(w0 w W:qM)(rb:Nat)(a:Option Addr)(n cap:Nat)(C:Nat)(lt:List Ae)(lo:List Ab)(g ca q co:Nat):Prop where
 rs:Ib w0 w W rb a n cap
 z:Ag W w (qG #[qV none 0 0,qV none 0 0] 27)
 k:Ag W C (qG #[qV g lt.length ca,qV q lo.length co] 27)
 st:Bz W w (qV g lt.length ca) (qV q lo.length co) lt lo
section
variable {w0 w W W':qM}{rb n cap C:Nat}{a:Option Addr}{lt:List Ae}{lo:List Ab}{g ca q co:Nat}
theorem Lj.call(h:Lj w0 w W rb a n cap C lt lo g ca q co)(hr:rb<w.heap.size)(hC:w.heap.size<C)(r:Rd w0 W' rb a n cap)(gr:W.grownBy W' (some rb)):Lj w0 w W' rb a n cap C lt lo g ca q co:=
 ⟨h.rs.call r gr,h.z.grown gr sO,h.k.grown gr sO,h.st.jX gr hr⟩
theorem Lj.below(h:Lj w0 w W rb a n cap C lt lo g ca q co)(hb:Below W W W'):Lj w0 w W' rb a n cap C lt lo g ca q co:=⟨h.rs.below hb,h.z.below hb,h.k.below hb,h.st.below hb⟩
end
theorem Sk{P:Program}{ops:Array Oper}{Q:Exit->Act->qM->Prop}{md:Region.Mode}{S:qM->Prop}{m:Nat}{i j k:Nat}{o o' o'':Oper}{fuel:Nat}{listed:Array Bool}{a:Act}{w:qM}(hr:Region.ready md ops listed=[i,j,k])(ho:ops[i]? =some o)(ho':ops[j]? =some o')(ho'':ops[k]? =some o'')
 (h:∀K':Act->qM->Prop,Shut (∀a w,((listed.setIfInBounds i true).getD m false=false->S w)->Cs P md ops Q S m fuel (listed.setIfInBounds i true) a w->K' a w)->if jW o (yielded ops a.tmps)=true then Oper.wp P o a w K' Q else K' (a.put o.dst undef) w)
 (h':∀K':Act->qM->Prop,Shut (∀a w,((listed.setIfInBounds j true).getD m false=false->S w)->Cs P md ops Q S m fuel (listed.setIfInBounds j true) a w->K' a w)->if jW o' (yielded ops a.tmps)=true then Oper.wp P o' a w K' Q else K' (a.put o'.dst undef) w)
 (h'':∀K':Act->qM->Prop,Shut (∀a w,((listed.setIfInBounds k true).getD m false=false->S w)->Cs P md ops Q S m fuel (listed.setIfInBounds k true) a w->K' a w)->if jW o'' (yielded ops a.tmps)=true then Oper.wp P o'' a w K' Q else K' (a.put o''.dst undef) w):
 Cs P md ops Q S m (fuel+1) listed a w:=
 ⟨fun h0=>(by rw[hr]at h0;cases h0),fun x hk=>by
   rw[hr]at hk;rcases kK.1 hk with rfl|hk
   ·exact wpOp_step ho (fun K' hK=>h K' (fun a w hS hW=>hK a w ⟨hS,hW⟩))
   ·rcases kK.1 hk with rfl|hk
    ·exact wpOp_step ho' (fun K' hK=>h' K' (fun a w hS hW=>hK a w ⟨hS,hW⟩))
    ·obtain rfl:=List.mem_singleton.1 hk;exact wpOp_step ho'' (fun K' hK=>h'' K' (fun a w hS hW=>hK a w ⟨hS,hW⟩))⟩
theorem KH{W:qM}{P Q t t':Nat}{a b:Array Value}(h:Ag W P (qG a t))(h':Ag W Q (qG b t'))(ht:t≠t'):P≠Q:=fun e=>by
 subst e;unfold Ag at h h';rw[h]at h';simp only[Option.some.injEq,Obj.cells.injEq]at h';exact ht h'.2.1
theorem Ik(tmps:Array Value)(W:qM)(P:Nat)(x y:Value)(h:Ag W P (qG #[x,y] 27))(h2:tmps[4]? =some (pT P)):
 (results Tryz.f25 tmps).run prog W= .ok (.agg #[x,y]) W:=by
 obtain⟨z0,z1⟩:=h.two;simp[results,Tryz.results25,go_sem,h2,z0,z1]
theorem RE(w0:qM)(rb:Nat)(a:Option Addr)(n cap:Nat)(w:qM)(h:Rd w0 w rb a n cap)(most:Nat)(hmost:most<=100):
 qP prog 25 #[pT rb,iT qH (most:Int)] w fun e w'=>∃(lt:List Ae) (lo:List Ab) (g ca q co:Nat),e= rT (.agg #[qV g lt.length ca,qV q lo.length co])/\Bz w' w (qV g lt.length ca) (qV q lo.length co) lt lo/\Jn lt lo/\Rd w0 w' rb a n cap/\w.grownBy w' (some rb):=by
 have lr:=h.lt;have n4:No (qG #[qV none 0 0,qV none 0 0] 27):=⟨⟩;have R0:=qC ((Ib.refl h).alloc n4);have Z0:=qC (Ag.new w n4);clear h;go_enter func25,ntmps25
 go_wp2_with fail
 refine(AF w0 rb a n cap 2 _ qQ R0.out.r).mono ?_;rintro e u1 ⟨x,rfl,_,hx,r1,g1⟩;have xl:=hx qQ;have R1:=qC (R0.out.call r1 g1);have Z1:=qC (Z0.out.grown g1 sO);have s1:w.heap.size+1<=u1.heap.size:=by have:=g1.size;simpa using this
 have w1_:IntKind.i64.wrap (2+(x:Int))=2+(x:Int):=by rw[IntKind.wrap_i64];omega
 clear r1 g1 hx R0 Z0;have C1:Hid (qP prog 51 #[iT qH (2+(x:Int))] u1 fun e w'=>∃(lt:List Ae) (lo:List Ab) (g ca q co:Nat),e= rT (.tuple #[.agg #[qV g lt.length ca,qV q lo.length co],.bool true])/\okL lt lo=true/\Bz w' u1 (qV g lt.length ca) (qV q lo.length co) lt lo/\Below u1 u1 w'):=qC (by
  have h:=Qj (2+x) u1 qQ qQ;have e:((2+x:Nat):Int)=2+(x:Int):=by omega
  rw[e]at h;refine h.mono ?_;rintro e w' ⟨ta,oa,ca,co,rfl,ks,hb⟩;obtain⟨g,q,rfl,rfl⟩:=ks.form (by rw[Gu];omega) sI;exact⟨Gl (2+x),[Qm],g,ca,q,co,rfl,bi qQ qQ,ks,hb⟩)
 go_wp2_with fail
 refine C1.out.mono ?_;rintro e u2 ⟨lt,lo,g,ca,q,co,rfl,ok,ks,hb2⟩;have n1:No (qG #[qV g lt.length ca,qV q lo.length co] 27):=⟨⟩;have K2:Hid (Lj w0 w (u2.alloc n1) rb a n cap u2 lt lo g ca q co):=qC (by
  have b:=(Below.refl _ u2).alloc nr n1;exact⟨(R1.out.below hb2).below b,(Z1.out.below hb2).below b,Ag.new u2 _,(ks.base qQ).below b⟩)
 have cC:w.heap.size<u2.heap.size:=by have:=hb2.size;omega
 have OK:=qC ok;clear ok ks hb2 C1 R1 Z1 w1_ s1 xl;obtain⟨mo1,em⟩:∃k,k=most+1:=⟨_,rfl⟩;have wm:IntKind.i64.wrap ((most:Int)+1)=(mo1:Int):=by rw[IntKind.wrap_i64];omega
 have EM:=qC em;clear em;go_wp2_with fail
 generalize u2.alloc n1=U2 at *;generalize u2.heap.size=C at *;refine(AF w0 rb a n cap mo1 _ (by have:=EM.out;omega) K2.out.rs.r).mono ?_;rintro e u3 ⟨y,rfl,_,hy,r3,g3⟩;have yl:=hy (by have:=EM.out;omega);have K3:=qC (K2.out.call lr cC r3 g3);clear r3 g3 hy K2 wm;go_wp2_with fail
 go_loopw [7] (fun i wr=>∃(j:Nat) (lt:List Ae) (lo:List Ab) (g ca q co:Nat),j<=100/\i= iT qH j/\okL lt lo=true/\Lj w0 w wr rb a n cap C lt lo g ca q co) (fun i _=>(intOf i).toNat)
 case atStart=>exact⟨y,lt,lo,g,ca,q,co,by have:=EM.out;omega,rfl,OK,K3⟩
 case round=>
  clear K3 OK;obtain⟨j,lt,lo,g,ca,q,co,hj,rfl,ok,kk⟩:=hrel;have OK:=qC ok;have KK:=qC kk;have tn:=Gh ok;have on:=Er ok;clear ok kk;obtain⟨k0,k1⟩:=KK.out.k.two;by_cases hlt:0<j
  ·have i1:(0:Int)<(j:Int):=qQ;have i2:IntKind.i64.wrap ((j:Int)-1)=(j:Int)-1:=(by rw[IntKind.wrap_i64];omega);have HLT:=qC hlt;have DR:Hid (Lj w0 w wr.drew rb a n cap C lt lo g ca q co):=qC (KK.out.below (Az (Below.refl _ wr)));have E1:Hid (∀args w,(callFunc 27 args).run prog w= .ok (.enter 27 args) w):=qC (enters_of func27 kR rfl);have E2:Hid (∀args w,(callFunc 28 args).run prog w= .ok (.enter 28 args) w):=qC (enters_of func28 kR rfl);have n2:Na #[qV g lt.length ca,qV q lo.length co]:=⟨⟩;have FS:Hid (∀W,Lj w0 w W rb a n cap C lt lo g ca q co->qP prog 27 #[pT rb,.agg n2] W fun e w'=>∃v,e= rT v/\(∃s:Aj,v= .agg s/\s.at w'/\Lj w0 w w' rb a n cap C lt lo g ca q co)):=qC (fun W hW=>(OZ w0 rb a n cap W hW.rs.r lt lo (some ⟨g,0,none⟩) (some ⟨q,0,none⟩) ca co w hW.st lr (aX.of OK).gen).mono fun e w' ⟨s,e1,sa,r,g'⟩=>⟨_,e1,s,rfl,⟨sa.1.1,sa.2.1.1,Nat.le_trans sa.2.2.1 (by unfold maxLen;omega)⟩,hW.call lr cC r g'⟩);have FD:Hid (∀(s:Aj) (W:qM),Lj w0 w W rb a n cap C lt lo g ca q co->s.at W->qP prog 28 #[.agg n2,.agg s] W fun e w'=>∃v,e= rT v/\(∃(lt':List Ae) (lo':List Ab) (ta:Option Addr) (ca':Nat) (oa:Option Addr) (co':Nat) (c:Int) (tx:ByteArray),v= .tuple #[.agg #[qV ta lt'.length ca',qV oa lo'.length co'],iT qH c,.string tx]/\okL lt' lo'=true/\Bz w' w (qV ta lt'.length ca') (qV oa lo'.length co') lt' lo'/\Lj w0 w w' rb a n cap C lt lo g ca q co)):=qC (fun s W hW sa=>by
    refine(MR (Df (some ⟨g,0,none⟩) ca (some ⟨q,0,none⟩) co lt lo) W (hW.st.at qQ qQ (Cx OK)) OK s sa).mono ?_;rintro e w' ⟨lt1,lo1,lt',lo',ta,ca',oa,co',c,tx,e1,k1,hb,sm,dp⟩;have ok1:okL lt1 lo1=true:=(Cc sm).trans OK.out;exact⟨_,e1,lt',lo',ta,ca',oa,co',c,tx,rfl,IB ok1 dp,k1.base hW.rs.g.size,hW.below hb⟩)
   go_wp2_with fail
   clear k0 k1;refine Am 9 (fun W=>Lj w0 w W rb a n cap C lt lo g ca q co) kR ?_;refine tr 0 24 (.agg n2) DR ?_ (hy:=fun W h=>by obtain⟨z0,z1⟩:=h.k.two;go_simp);refine tr 1 25 (pT rb) DR ?_;refine tr 2 26 (.agg n2) DR ?_ (hy:=fun W h=>by obtain⟨z0,z1⟩:=h.k.two;go_simp);generalize wr.drew=WD at *;refine Ac (i:=3) kR rfl ?_;intro K hK;refine Ay qK 27 _ _ _ qK E1 _ _ qK qK (some 27) qK _ (FS _ DR) ?_;rintro v w2 ⟨s,rfl,sa,hS⟩;have H1:=qC hS;have SA:=qC sa;refine hK _ _ (fun _=>H1) ?_;clear hK K hS sa;simp only[ap,qF];refine Ac (i:=4) kR rfl ?_;intro K hK;refine Ay qK 28 _ _ _ qK E2 _ _ qK qK (some 28) qK _ (FD _ _ H1 SA) ?_;rintro v w3 ⟨lt',lo',ta,ca',oa,co',c,tx,rfl,ok',k3,hS⟩;have H2:=qC hS;have OK':=qC ok';have K3:=qC k3;refine hK _ _ (fun _=>H2) ?_;clear hK K hS ok' k3;simp only[ap,qF];have n3:Na #[qV ta lt'.length ca',qV oa lo'.length co']:=⟨⟩;refine tr 5 23 (.tuple #[.agg n3,iT qH c,.string tx]) H2 ?_;refine tr 6 29 (.agg n3) H2 ?_;obtain⟨k0,k1⟩:=H2.out.k.two;have kf:=H2.out.k.jC;refine Sk (i:=7) (j:=8) (k:=9) kR rfl rfl rfl ?_ ?_ ?_
   ·intro K hK;go_simp;refine hK _ _ (fun _=>H2) ?_;clear hK K;try simp only[ap,qF]
    refine Cd (i:=8) (j:=9) kR rfl rfl ?_ ?_
    ·intro K hK;go_simp;refine hK _ _ (fun _=>H2) ?_;clear hK K;try simp only[ap,qF]
     refine oO 9 ?_;try simp only[ap,qF]
     refine Ai kR ?_ _;go_wp2_with fail
     go_roundw;case rel=>
      obtain⟨g',q',rfl,rfl⟩:=K3.out.form (by have:=Gh OK'.out;omega) (by have:=Er OK'.out;omega);refine⟨j-1,lt',lo',g',ca',q',co',by omega,by go_num,OK',?_⟩;exact⟨(H2.out.rs.set lr qQ 0 _).set lr qQ 1 _,(H2.out.z.other qQ _).other qQ _,(H2.out.k.jB (i:=0) _).jB (i:=1) _,(K3.out.set H2.out.k (.inl rfl) _).set (H2.out.k.jB (i:=0) _) (.inl rfl) _⟩
     case measure=>have:=HLT.out;simp[intOf];omega
    ·intro K hK;go_simp;refine hK _ _ nA ?_;clear hK K;try simp only[ap,qF]
     refine oO 8 ?_;try simp only[ap,qF]
     refine Ai kR ?_ _;go_wp2_with fail
     go_roundw;case rel=>
      obtain⟨g',q',rfl,rfl⟩:=K3.out.form (by have:=Gh OK'.out;omega) (by have:=Er OK'.out;omega);refine⟨j-1,lt',lo',g',ca',q',co',by omega,by go_num,OK',?_⟩;exact⟨(H2.out.rs.set lr qQ 0 _).set lr qQ 1 _,(H2.out.z.other qQ _).other qQ _,(H2.out.k.jB (i:=0) _).jB (i:=1) _,(K3.out.set H2.out.k (.inl rfl) _).set (H2.out.k.jB (i:=0) _) (.inl rfl) _⟩
     case measure=>have:=HLT.out;simp[intOf];omega
   ·intro K hK;go_simp;refine hK _ _ (fun _=>H2) ?_;clear hK K;try simp only[ap,qF]
    refine Cd (i:=7) (j:=9) kR rfl rfl ?_ ?_
    ·intro K hK;go_simp;refine hK _ _ (fun _=>H2) ?_;clear hK K;try simp only[ap,qF]
     refine oO 9 ?_;try simp only[ap,qF]
     refine Ai kR ?_ _;go_wp2_with fail
     go_roundw;case rel=>
      obtain⟨g',q',rfl,rfl⟩:=K3.out.form (by have:=Gh OK'.out;omega) (by have:=Er OK'.out;omega);refine⟨j-1,lt',lo',g',ca',q',co',by omega,by go_num,OK',?_⟩;exact⟨(H2.out.rs.set lr qQ 0 _).set lr qQ 1 _,(H2.out.z.other qQ _).other qQ _,(H2.out.k.jB (i:=0) _).jB (i:=1) _,(K3.out.set H2.out.k (.inl rfl) _).set (H2.out.k.jB (i:=0) _) (.inl rfl) _⟩
     case measure=>have:=HLT.out;simp[intOf];omega
    ·intro K hK;go_simp;refine hK _ _ nA ?_;clear hK K;try simp only[ap,qF]
     refine oO 7 ?_;try simp only[ap,qF]
     refine Ai kR ?_ _;go_wp2_with fail
     go_roundw;case rel=>
      obtain⟨g',q',rfl,rfl⟩:=K3.out.form (by have:=Gh OK'.out;omega) (by have:=Er OK'.out;omega);refine⟨j-1,lt',lo',g',ca',q',co',by omega,by go_num,OK',?_⟩;exact⟨(H2.out.rs.set lr qQ 0 _).set lr qQ 1 _,(H2.out.z.other qQ _).other qQ _,(H2.out.k.jB (i:=0) _).jB (i:=1) _,(K3.out.set H2.out.k (.inl rfl) _).set (H2.out.k.jB (i:=0) _) (.inl rfl) _⟩
     case measure=>have:=HLT.out;simp[intOf];omega
   ·intro K hK;go_simp;refine hK _ _ nA ?_;clear hK K;try simp only[ap,qF]
    refine Cd (i:=7) (j:=8) kR rfl rfl ?_ ?_
    ·intro K hK;go_simp;refine hK _ _ nA ?_;clear hK K;try simp only[ap,qF]
     refine oO 8 ?_;try simp only[ap,qF]
     refine Ai kR ?_ _;go_wp2_with fail
     go_roundw;case rel=>
      obtain⟨g',q',rfl,rfl⟩:=K3.out.form (by have:=Gh OK'.out;omega) (by have:=Er OK'.out;omega);refine⟨j-1,lt',lo',g',ca',q',co',by omega,by go_num,OK',?_⟩;exact⟨(H2.out.rs.set lr qQ 0 _).set lr qQ 1 _,(H2.out.z.other qQ _).other qQ _,(H2.out.k.jB (i:=0) _).jB (i:=1) _,(K3.out.set H2.out.k (.inl rfl) _).set (H2.out.k.jB (i:=0) _) (.inl rfl) _⟩
     case measure=>have:=HLT.out;simp[intOf];omega
    ·intro K hK;go_simp;refine hK _ _ nA ?_;clear hK K;try simp only[ap,qF]
     refine oO 7 ?_;try simp only[ap,qF]
     refine Ai kR ?_ _;go_wp2_with fail
     go_roundw;case rel=>
      obtain⟨g',q',rfl,rfl⟩:=K3.out.form (by have:=Gh OK'.out;omega) (by have:=Er OK'.out;omega);refine⟨j-1,lt',lo',g',ca',q',co',by omega,by go_num,OK',?_⟩;exact⟨(H2.out.rs.set lr qQ 0 _).set lr qQ 1 _,(H2.out.z.other qQ _).other qQ _,(H2.out.k.jB (i:=0) _).jB (i:=1) _,(K3.out.set H2.out.k (.inl rfl) _).set (H2.out.k.jB (i:=0) _) (.inl rfl) _⟩
     case measure=>have:=HLT.out;simp[intOf];omega
  ·obtain rfl:j=0:=by omega
   have i1:¬(0:Int)<((0:Nat):Int):=qQ;go_wp2_with fail
   refine(AF w0 rb a n cap 40 _ qQ KK.out.rs.r).mono ?_;rintro e u4 ⟨x3,rfl,_,hx3,r4,g4⟩;have KX:=qC (KK.out.call lr cC r4 g4);clear r4 g4 hx3 KK k0 k1;obtain⟨k0,k1⟩:=KX.out.k.two;by_cases h39:x3=39
   ·subst h39;go_wp2_with fail
    clear k0 k1;have DR:Hid (Lj w0 w u4.drew rb a n cap C lt lo g ca q co):=qC (KX.out.below (Az (Below.refl _ u4)));have E1:Hid (∀args w,(callFunc 26 args).run prog w= .ok (.enter 26 args) w):=qC (enters_of func26 kR rfl);have E2:Hid (∀args w,(callFunc 52 args).run prog w= .ok (.enter 52 args) w):=qC (enters_of func52 kR rfl);have FB:Hid (∀W,Lj w0 w W rb a n cap C lt lo g ca q co->qP prog 26 #[pT rb,iT qH (lo.length:Int)] W fun e w'=>∃v,e= rT v/\(∃u:Nat,v= iT qH (u:Int)/\u<lo.length/\Lj w0 w w' rb a n cap C lt lo g ca q co)):=qC (fun W hW=>(AF w0 rb a n cap lo.length W qQ hW.rs.r).mono fun e w' ⟨x,e1,_,hx,r,g'⟩=>⟨_,e1,x,rfl,hx qQ,hW.call lr cC r g'⟩);have FO:Hid (∀W,Lj w0 w W rb a n cap C lt lo g ca q co->qP prog 52 #[pT rb,iT qH 0,iT qH 2] W fun e w'=>∃v,e= rT v/\(∃x:Int,v= iT qH x/\Tb x/\Lj w0 w w' rb a n cap C lt lo g ca q co)):=qC (fun W hW=>(RV w0 rb a n cap 0 2 W qQ qQ hW.rs.r).mono fun e w' ⟨x,e1,hx,r,g'⟩=>⟨_,e1,x,rfl,hx,hW.call lr cC r g'⟩);refine Am 11 (fun W=>Lj w0 w W rb a n cap C lt lo g ca q co) kR ?_;have n9:Nv (pT (some ⟨C,1,none⟩)):=⟨⟩;refine tr 0 36 n9 DR ?_;have n5:Nv (qV q lo.length co):=⟨⟩;refine tr 1 37 n5 DR ?_ (hy:=fun W h=>by obtain⟨z0,z1⟩:=h.k.two;go_simp);have n7:Nv (pT rb):=⟨⟩;refine tr 2 38 n7 DR ?_;refine tr 3 39 n9 DR ?_;refine tr 4 40 n5 DR ?_ (hy:=fun W h=>by obtain⟨z0,z1⟩:=h.k.two;go_simp);refine tr 5 41 (iT qH (lo.length:Int)) DR ?_;refine tr 7 43 n7 DR ?_;generalize u4.drew=WD at *;refine Ac (i:=6) kR rfl ?_;intro K hK;refine Ay qK 26 _ _ _ qK E1 _ _ qK qK (some 42) qK _ (FB _ DR) ?_;rintro v w2 ⟨u,rfl,ul,hS⟩;have H1:=qC hS;refine hK _ _ (fun _=>H1) ?_;clear hK K hS;simp only[ap,qF];have j1:(u:Int)<(lo.length:Int):=qQ;have j2:(0:Int)<=(u:Int):=qQ;refine Ac (i:=8) kR rfl ?_;intro K hK;refine Dq qK 52 _ _ _ _ qK E2 _ _ _ qK qK qK (some 44) qK _ (FO _ H1) ?_;rintro v w3 ⟨dd,rfl,hdd,hS⟩;have H2:=qC hS;refine hK _ _ (fun _=>H2) ?_;clear hK K hS;simp only[ap,qF];refine oO 9 ?_ (hS:=fun _=>H2);try simp only[ap,qF]
    refine tr 10 46 (pT (some ⟨q,u*10+2,none⟩)) H2 ?_;obtain⟨o,eo⟩:∃o,o=lo[u]:=⟨_,rfl⟩;have EO:=qC eo;have GF:=qC (H2.out.st.setUp (d:=dd) ul EO);have gf:=GF.out.2.1.choose_spec.jC;have CC:=(H2.out.st.jF ul (Cx OK)).1;rw[<-eo]at CC;clear eo;have q0:=CC.c0;have q1:=CC.c1;have q2:=CC.c2;have q3:=CC.c3;have q4:=CC.c4;have q5:=CC.c5;have q6:=CC.c6;have q7:=CC.c7;have q8:=CC.c8;have q9:=CC.c9;clear CC;refine oO 11 ?_;try simp only[ap,qF]
    refine Ai kR ?_ _;clear q0 q1 q2 q3 q4 q5 q6 q7 q8 q9 gf;have nC:q≠C:=KH GF.out.2.1.choose_spec H2.out.k qX;have nZ:q≠w.heap.size:=KH GF.out.2.1.choose_spec H2.out.z qX;have Z4:=qC (H2.out.z.other (Q:=q) nZ (i:=u*10+2) (iT qH dd));have K4:=qC (H2.out.k.other (Q:=q) nC (i:=u*10+2) (iT qH dd));have S4:=qC GF.out.1;have R4:=qC (H2.out.rs.set lr GF.out.2.2 (u*10+2) (iT qH dd));generalize (w3.setCell ⟨q,u*10+2,none⟩ (iT qH dd))=W4 at *;obtain⟨LO,eLO⟩:∃l,l=lo.set u ⟨o.id,o.kind,dd,o.b1,o.c1,o.data,o.jA,o.own,o.b2,o.c2⟩:=⟨_,rfl⟩;have hl:LO.length=lo.length:=(by rw[eLO];simp);rw[<-eLO]at S4;have KD:Hid (Jn lt LO):=qC (by rw[eLO];exact Jn.up OK u o dd ul EO hdd);have HL:=qC hl;clear eLO GF hl;obtain⟨f0,f1⟩:=K4.out.two;obtain⟨z0,z1⟩:=Z4.out.two;have zf:=Z4.out.jC;go_wp2;refine bodyPost_ret (Ik _ _ w _ _ ((Z4.out.jB (i:=0) _).jB (i:=1) _) rfl) rfl ⟨lt,LO,g,ca,q,co,by rw[HL.out],?_,KD,?_,?_⟩
    ·rw[HL.out];exact(S4.out.set Z4 (.inl rfl) _).set (Z4.out.jB (i:=0) _) (.inl rfl) _
    ·exact((R4.out.set lr nr 0 _).set lr nr 1 _).r
    ·exact((R4.out.set lr nr 0 _).set lr nr 1 _).g
   by_cases h38:x3=38
   ·subst h38;go_wp2_with fail
    clear k0 k1;have DR:Hid (Lj w0 w u4.drew rb a n cap C lt lo g ca q co):=qC (KX.out.below (Az (Below.refl _ u4)));have E2:Hid (∀args w,(callFunc 52 args).run prog w= .ok (.enter 52 args) w):=qC (enters_of func52 kR rfl);have t0:0<lt.length:=qQ;have t1:(0:Int)<(lt.length:Int):=qQ;have FO:Hid (∀W,Lj w0 w W rb a n cap C lt lo g ca q co->qP prog 52 #[pT rb,iT qH 0,iT qH 3] W fun e w'=>∃v,e= rT v/\(∃x:Int,v= iT qH x/\Tb x/\Lj w0 w w' rb a n cap C lt lo g ca q co)):=qC (fun W hW=>(RV w0 rb a n cap 0 3 W qQ qQ hW.rs.r).mono fun e w' ⟨x,e1,hx,r,g'⟩=>⟨_,e1,x,rfl,hx,hW.call lr cC r g'⟩);refine Am 6 (fun W=>Lj w0 w W rb a n cap C lt lo g ca q co) kR ?_;refine tr 0 49 (pT C) DR ?_;refine tr 1 50 (qV g lt.length ca) DR ?_ (hy:=fun W h=>by obtain⟨z0,z1⟩:=h.k.two;go_simp);refine tr 2 51 (pT rb) DR ?_;generalize u4.drew=WD at *;refine Ac (i:=3) kR rfl ?_;intro K hK;refine Dq qK 52 _ _ _ _ qK E2 _ _ _ qK qK qK (some 52) qK _ (FO _ DR) ?_;rintro v w3 ⟨dd,rfl,hdd,hS⟩;have H2:=qC hS;refine hK _ _ (fun _=>H2) ?_;clear hK K hS;simp only[ap,qF];refine oO 4 ?_ (hS:=fun _=>H2);try simp only[ap,qF]
    refine tr 5 54 (pT (some ⟨g,6,none⟩)) H2 ?_;obtain⟨X,eX⟩:∃X,X=lt[0]:=⟨_,rfl⟩;have EX:=qC eX;have GF:=qC (H2.out.st.setMade (m:=dd) t0 EX);rw[Nat.zero_mul,jx]at GF;have gf:=GF.out.2.1.choose_spec.jC;have CC:=(H2.out.st.jJ t0).1;rw[<-eX]at CC;clear eX;have q0:=CC.c0;have q1:=CC.c1;have q2:=CC.c2;have q3:=CC.c3;have q4:=CC.c4;have q5:=CC.c5;have q6:=CC.c6;clear CC;simp only[Nat.zero_mul,jx]at q0 q1 q2 q3 q4 q5 q6;refine oO 6 ?_;try simp only[ap,qF]
    refine Ai kR ?_ _;clear q0 q1 q2 q3 q4 q5 q6 gf;have nC:g≠C:=KH GF.out.2.1.choose_spec H2.out.k qX;have nZ:g≠w.heap.size:=KH GF.out.2.1.choose_spec H2.out.z qX;have Z4:=qC (H2.out.z.other (Q:=g) nZ (i:=6) (iT qH dd));have K4:=qC (H2.out.k.other (Q:=g) nC (i:=6) (iT qH dd));have S4:=qC GF.out.1;have R4:=qC (H2.out.rs.set lr GF.out.2.2 6 (iT qH dd));generalize (w3.setCell ⟨g,6,none⟩ (iT qH dd))=W4 at *;obtain⟨LT_,eLT⟩:∃l,l=lt.set 0 ⟨X.id,X.b1,X.c1,X.b2,X.c2,X.own,dd⟩:=⟨_,rfl⟩;have hl:LT_.length=lt.length:=(by rw[eLT];simp);rw[<-eLT]at S4;have KD:Hid (Jn LT_ lo):=qC (by rw[eLT];exact Jn.made OK X dd t0 EX hdd);have HL:=qC hl;clear eLT GF hl;obtain⟨f0,f1⟩:=K4.out.two;obtain⟨z0,z1⟩:=Z4.out.two;have zf:=Z4.out.jC;go_wp2;refine bodyPost_ret (Ik _ _ w _ _ ((Z4.out.jB (i:=0) _).jB (i:=1) _) rfl) rfl ⟨LT_,lo,g,ca,q,co,by rw[HL.out],?_,KD,?_,?_⟩
    ·rw[HL.out];exact(S4.out.set Z4 (.inl rfl) _).set (Z4.out.jB (i:=0) _) (.inl rfl) _
    ·exact((R4.out.set lr nr 0 _).set lr nr 1 _).r
    ·exact((R4.out.set lr nr 0 _).set lr nr 1 _).g
   by_cases h37:x3=37
   ·subst h37;go_wp2_with fail
    clear k0 k1;have DR:Hid (Lj w0 w u4.drew rb a n cap C lt lo g ca q co):=qC (KX.out.below (Az (Below.refl _ u4)));have E1:Hid (∀args w,(callFunc 26 args).run prog w= .ok (.enter 26 args) w):=qC (enters_of func26 kR rfl);have E2:Hid (∀args w,(callFunc 52 args).run prog w= .ok (.enter 52 args) w):=qC (enters_of func52 kR rfl);have FB:Hid (∀W,Lj w0 w W rb a n cap C lt lo g ca q co->qP prog 26 #[pT rb,iT qH (lo.length:Int)] W fun e w'=>∃v,e= rT v/\(∃u:Nat,v= iT qH (u:Int)/\u<lo.length/\Lj w0 w w' rb a n cap C lt lo g ca q co)):=qC (fun W hW=>(AF w0 rb a n cap lo.length W qQ hW.rs.r).mono fun e w' ⟨x,e1,_,hx,r,g'⟩=>⟨_,e1,x,rfl,hx qQ,hW.call lr cC r g'⟩);have FO:Hid (∀W,Lj w0 w W rb a n cap C lt lo g ca q co->qP prog 52 #[pT rb,iT qH 1,iT qH 4] W fun e w'=>∃v,e= rT v/\(∃x:Int,v= iT qH x/\Tb x/\Lj w0 w w' rb a n cap C lt lo g ca q co)):=qC (fun W hW=>(RV w0 rb a n cap 1 4 W qQ qQ hW.rs.r).mono fun e w' ⟨x,e1,hx,r,g'⟩=>⟨_,e1,x,rfl,hx,hW.call lr cC r g'⟩);refine Am 11 (fun W=>Lj w0 w W rb a n cap C lt lo g ca q co) kR ?_;have n10:Nv (pT (some ⟨C,1,none⟩)):=⟨⟩;refine tr 0 57 n10 DR ?_;have n6:Nv (qV q lo.length co):=⟨⟩;refine tr 1 58 n6 DR ?_ (hy:=fun W h=>by obtain⟨z0,z1⟩:=h.k.two;go_simp);have n8:Nv (pT rb):=⟨⟩;refine tr 2 59 n8 DR ?_;refine tr 3 60 n10 DR ?_;refine tr 4 61 n6 DR ?_ (hy:=fun W h=>by obtain⟨z0,z1⟩:=h.k.two;go_simp);refine tr 5 62 (iT qH (lo.length:Int)) DR ?_;refine tr 7 64 n8 DR ?_;generalize u4.drew=WD at *;refine Ac (i:=6) kR rfl ?_;intro K hK;refine Ay qK 26 _ _ _ qK E1 _ _ qK qK (some 63) qK _ (FB _ DR) ?_;rintro v w2 ⟨u,rfl,ul,hS⟩;have H1:=qC hS;refine hK _ _ (fun _=>H1) ?_;clear hK K hS;simp only[ap,qF];have j1:(u:Int)<(lo.length:Int):=qQ;have j2:(0:Int)<=(u:Int):=qQ;refine Ac (i:=8) kR rfl ?_;intro K hK;refine Dq qK 52 _ _ _ _ qK E2 _ _ _ qK qK qK (some 65) qK _ (FO _ H1) ?_;rintro v w3 ⟨dd,rfl,hdd,hS⟩;have H2:=qC hS;refine hK _ _ (fun _=>H2) ?_;clear hK K hS;simp only[ap,qF];refine oO 9 ?_ (hS:=fun _=>H2);try simp only[ap,qF]
    refine tr 10 67 (pT (some ⟨q,u*10+1,none⟩)) H2 ?_;obtain⟨o,eo⟩:∃o,o=lo[u]:=⟨_,rfl⟩;have EO:=qC eo;have GF:=qC (H2.out.st.setKind (d:=dd) ul EO);have gf:=GF.out.2.1.choose_spec.jC;have CC:=(H2.out.st.jF ul (Cx OK)).1;rw[<-eo]at CC;clear eo;have q0:=CC.c0;have q1:=CC.c1;have q2:=CC.c2;have q3:=CC.c3;have q4:=CC.c4;have q5:=CC.c5;have q6:=CC.c6;have q7:=CC.c7;have q8:=CC.c8;have q9:=CC.c9;clear CC;refine oO 11 ?_;try simp only[ap,qF]
    refine Ai kR ?_ _;clear q0 q1 q2 q3 q4 q5 q6 q7 q8 q9 gf;have nC:q≠C:=KH GF.out.2.1.choose_spec H2.out.k qX;have nZ:q≠w.heap.size:=KH GF.out.2.1.choose_spec H2.out.z qX;have Z4:=qC (H2.out.z.other (Q:=q) nZ (i:=u*10+1) (iT qH dd));have K4:=qC (H2.out.k.other (Q:=q) nC (i:=u*10+1) (iT qH dd));have S4:=qC GF.out.1;have R4:=qC (H2.out.rs.set lr GF.out.2.2 (u*10+1) (iT qH dd));generalize (w3.setCell ⟨q,u*10+1,none⟩ (iT qH dd))=W4 at *;obtain⟨LO,eLO⟩:∃l,l=lo.set u ⟨o.id,dd,o.up,o.b1,o.c1,o.data,o.jA,o.own,o.b2,o.c2⟩:=⟨_,rfl⟩;have hl:LO.length=lo.length:=(by rw[eLO];simp);rw[<-eLO]at S4;have KD:Hid (Jn lt LO):=qC (by rw[eLO];exact Jn.kind OK u o dd ul EO hdd);have HL:=qC hl;clear eLO GF hl;obtain⟨f0,f1⟩:=K4.out.two;obtain⟨z0,z1⟩:=Z4.out.two;have zf:=Z4.out.jC;go_wp2;refine bodyPost_ret (Ik _ _ w _ _ ((Z4.out.jB (i:=0) _).jB (i:=1) _) rfl) rfl ⟨lt,LO,g,ca,q,co,by rw[HL.out],?_,KD,?_,?_⟩
    ·rw[HL.out];exact(S4.out.set Z4 (.inl rfl) _).set (Z4.out.jB (i:=0) _) (.inl rfl) _
    ·exact((R4.out.set lr nr 0 _).set lr nr 1 _).r
    ·exact((R4.out.set lr nr 0 _).set lr nr 1 _).g
   have b39:(((x3:Nat):Int)==39)=false:=(by simp only[beq_eq_false_iff_ne,ne_eq];omega);have c39:decide (((x3:Nat):Int)=39)=false:=decide_eq_false qQ;have b38:(((x3:Nat):Int)==38)=false:=(by simp only[beq_eq_false_iff_ne,ne_eq];omega);have c38:decide (((x3:Nat):Int)=38)=false:=decide_eq_false qQ;have b37:(((x3:Nat):Int)==37)=false:=(by simp only[beq_eq_false_iff_ne,ne_eq];omega);have c37:decide (((x3:Nat):Int)=37)=false:=decide_eq_false qQ;clear k0 k1 h39 h38 h37;obtain⟨f0,f1⟩:=KX.out.k.two;obtain⟨z0,z1⟩:=KX.out.z.two;have zf:=KX.out.z.jC;go_wp2;refine bodyPost_ret (Ik _ _ w _ _ ((KX.out.z.jB (i:=0) _).jB (i:=1) _) rfl) rfl ⟨lt,lo,g,ca,q,co,rfl,?_,Jn.right OK,?_,?_⟩
   ·exact(KX.out.st.set KX.out.z (.inl rfl) _).set (KX.out.z.jB (i:=0) _) (.inl rfl) _
   ·exact((KX.out.rs.set lr nr 0 _).set lr nr 1 _).r
   ·exact((KX.out.rs.set lr nr 0 _).set lr nr 1 _).g
end Go.Proofs.YtdaccbddcjlkpaaGreatDoor
