import Derived.Test.YtblapfnglojgjaaGreatDoorZ6k
set_option maxRecDepth 100000
set_option maxHeartbeats 16000000
namespace Go.Proofs.YtblapfnglojgjaaGreatDoor
open Go Go.RowKit Go.Deep Go.Maps Go.Proofs.Tryz
variable {o:Ae}{k:AJ}{j:Nat}{l:List Ae}
def Ej(o:Ae):List Ae->List Ae
 |[]=>[o]
 |x::r=>if o.id<x.id then o::x::r else x::Ej o r
theorem Q0:∀{a b:List Ae},(∃y∈a,o.id<y.id)->Ej o (a++b)=Ej o a++b
 |[],b,h=>by obtain⟨y,hy,_⟩:=h;exact absurd hy List.not_mem_nil
 |x::a,b,h=>by
  show Ej o (x::(a++b))=Ej o (x::a)++b;unfold Ej;split
  ·rfl
  ·rename_i hx;obtain⟨y,hy,hl⟩:=h;rcases List.mem_cons.1 hy with rfl|hy
   ·exact absurd hl hx
   ·rw[Q0 ⟨y,hy,hl⟩];rfl
theorem MF:∀{a b:List Ae},(∀y∈a,¬o.id<y.id)->Ej o (a++b)=a++Ej o b
 |[],b,_=>rfl
 |x::a,b,h=>by
  show Ej o (x::(a++b))=_;rw[Ej,if_neg (h x List.mem_cons_self),MF (fun y hy=>h y (List.mem_cons_of_mem _ hy))];rfl
theorem PZ:∀{a:List Ae},(Ej o a).length=a.length+1
 |[]=>rfl
 |x::a=>by
  unfold Ej;split
  ·simp
  ·rw[List.length_cons,PZ,List.length_cons]
theorem PD{x:Ae}:∀{a:List Ae},x∈Ej o a->x=o∨x∈a
 |[],h=> .inl (List.mem_singleton.1 h)
 |y::a,h=>by
  unfold Ej at h;split at h
  ·rcases List.mem_cons.1 h with h|h
   ·exact .inl h
   ·exact .inr h
  ·rcases List.mem_cons.1 h with h|h
   ·exact .inr (h▸List.mem_cons_self)
   ·rcases PD h with h|h
    ·exact .inl h
    ·exact .inr (List.mem_cons_of_mem _ h)
def AJ.oL(k:AJ)(j:Nat):List Ae:=(List.range j).map k.O
theorem Kw(k:AJ)(j:Nat):k.oL (j+1)=k.oL j++[k.O j]:=by unfold AJ.oL;rw[List.range_succ,List.map_append];rfl
theorem Ym(k:AJ)(j:Nat):(k.oL j).length=j:=by simp[AJ.oL]
def MP(k:AJ)(o:Ae)(j:Nat):Bool->List Ae->Prop
 |false,l=>l=k.oL j/\∀y∈k.oL j,¬o.id<y.id
 |true,l=>l=Ej o (k.oL j)/\∃y∈k.oL j,o.id<y.id
theorem VZ(h:MP k o j false l)(hx:¬o.id<(k.O j).id):MP k o (j+1) false (l++[k.O j]):=by
 refine⟨by rw[Kw,h.1],fun y hy=>?_⟩;rw[Kw]at hy;rcases List.mem_append.1 hy with hy|hy
 ·exact h.2 y hy
 ·rw[List.mem_singleton.1 hy];exact hx
theorem Xp(h:MP k o j false l)(hx:o.id<(k.O j).id):MP k o (j+1) true (l++[o]++[k.O j]):=by
 refine⟨?_,k.O j,by rw[Kw];exact List.mem_append_right _ List.mem_cons_self,hx⟩;rw[Kw,MF h.2,h.1,Ej,if_pos hx,List.append_assoc];rfl
theorem Wh(h:MP k o j true l):MP k o (j+1) true (l++[k.O j]):=by
 obtain⟨h1,y,hy,hl⟩:=h;refine⟨by rw[Kw,Q0 ⟨y,hy,hl⟩,h1],y,by rw[Kw];exact List.mem_append_left _ hy,hl⟩
theorem WZ:∀{b:Bool}{l:List Ae},MP k o j b l->l.length<=j+1
 |false,_,h=>by rw[h.1,Ym];omega
 |true,_,h=>by rw[h.1,PZ,Ym];omega
theorem Yk(k:AJ)(o:Ae)(w:World)(hk:k.at w)(hn:k.on<=1048000):
 Calls prog 113 #[k.val,.agg o] w fun e w'=>∃(oa:Option Addr) (co:Nat),e= .returned (.agg #[.slice k.ta k.tn k.tk,.slice oa (Ej o (k.oL k.on)).length co])/\Ba w' w (.slice oa (Ej o (k.oL k.on)).length co) (Ej o (k.oL k.on))/\Below w w w':=by
 have n4:No (.cells o 51):=⟨⟩;have n7:No (.cells #[.slice k.ta k.tn k.tk,.slice k.oa k.on k.ok] 27):=⟨⟩;have n8:No (.cells #[.slice none 0 0,.slice none 0 0] 27):=⟨⟩;have n1:Nw (((w.alloc n7).alloc n4).alloc n8):=⟨⟩;have b0:Below w w n1:=((CY w _).alloc (by simp) _).alloc (by simp;omega) _;have A0:Ai n1 w n7:=((Ai.new w n7).alloc _).alloc _;have P0:Ai n1 (w.heap.size+1) n4:=by have:=(Ai.new (w.alloc n7) n4).alloc n8;simpa using this
 have R0:Ai n1 (w.heap.size+1+1) n8:=by have:=Ai.new ((w.alloc n7).alloc n4) n8;simpa using this
 have HO:=hid (hk.2.2.2.below b0);have HB:=hid b0;have lV:Hid ((n1:World).heap.size=w.heap.size+3):=hid (by simp);have E0:Hid (Ba ((n1:World).alloc (.cells #[] 51)) (n1:World).heap.size (.slice (some ⟨w.heap.size+1+1+1,0,none⟩) 0 0) []):=hid (by
  have h:=Ba.made n1 (n1:World).heap.size nr;rw[show(some ⟨(n1:World).heap.size,0,none⟩:Option Addr)=some ⟨w.heap.size+1+1+1,0,none⟩ from by simp]at h;exact h)
 have BE:=hid (CY n1 (.cells #[] 51));have HA:=hid A0;have HP:=hid P0;have HR:=hid R0;unfold AJ.val;clear hk b0 A0 P0 R0;go_enter func113,ntmps113
 go_wp2;generalize (n1:World)=V at *;go_loopw [5,6,7] (fun v d i wr=>∃(j:Nat) (b:Bool) (l:List Ae) (la:Option Addr) (lc:Nat),j<=k.on/\i= .int .i64 j/\d= .bool b/\v= .slice la l.length lc/\MP k o j b l/\Ba wr V (.slice la l.length lc) l/\Below V V wr) (fun _ _ i _=>k.on-(intOf i).toNat)
 case atStart=>exact⟨0,false,[],_,0,Nat.zero_le _,rfl,rfl,rfl,⟨rfl,fun y hy=>absurd hy List.not_mem_nil⟩,E0,BE⟩
 case round=>
  clear E0 BE;obtain⟨j,d,l,la,lc,hj,rfl,rfl,rfl,ad,ow,be⟩:=hrel;have AT:=hid ad;have OW:=hid ow;have BB:=hid be;have ll:l.length<=1048575:=by have:=WZ ad;omega
  have ll2:l.length+1<=1048576:=by omega
  clear ad ow be;obtain⟨a0,a1⟩:=(HA.out.below BB).two;have PB:=hid (HP.out.below BB);obtain⟨o0,o1,o2,o3,o4,o5,o6,o7,o8,o9⟩:=PB.out.jE;by_cases hlt:j<k.on
  ·have i1:(j:Int)<(k.on:Int):=(by omega);have i0:(0:Int)<=(j:Int):=(by omega);obtain⟨b,off,ea,hbl,hc⟩:=HO.out (by omega);have CC:Eg wr b (off+j*10) (k.O j):=(hc j hlt).1.below hbl BB.out;have q0:wr.cell? ⟨b,off+j*10,none⟩=some (.int .i64 (k.O j).id):=CC.c0;have q1:wr.cell? ⟨b,off+j*10+1,none⟩=some (.int .i64 (k.O j).kind):=CC.c1;have q2:wr.cell? ⟨b,off+j*10+2,none⟩=some (.int .i64 (k.O j).up):=CC.c2;have q3:wr.cell? ⟨b,off+j*10+3,none⟩=some (.int .i64 (k.O j).b1):=CC.c3;have q4:wr.cell? ⟨b,off+j*10+4,none⟩=some (.slice (k.O j).c1.a (k.O j).c1.n (k.O j).c1.k):=CC.c4;have q5:wr.cell? ⟨b,off+j*10+5,none⟩=some (.string (k.O j).data):=CC.c5;have q6:wr.cell? ⟨b,off+j*10+6,none⟩=some (.slice (k.O j).jA.a (k.O j).jA.n (k.O j).jA.k):=CC.c6;have q7:wr.cell? ⟨b,off+j*10+7,none⟩=some (.slice (k.O j).own.a (k.O j).own.n (k.O j).own.k):=CC.c7;have q8:wr.cell? ⟨b,off+j*10+8,none⟩=some (.int .i64 (k.O j).b2):=CC.c8;have q9:wr.cell? ⟨b,off+j*10+9,none⟩=some (.slice (k.O j).c2.a (k.O j).c2.n (k.O j).c2.k):=CC.c9;rw[ea]at a1;have hbw:b<wr.heap.size:=Nat.lt_of_lt_of_le hbl BB.out.size;have HLT:=hid hlt;have EA:=hid ea;have HC:Hid (∀X,Below V V X->Eg X b (off+j*10) (k.O j)):=hid (fun X hX=>(hc j HLT).1.below hbl hX);clear hc CC ea hlt;cases d with
   |true=>
    go_wp2_with fail
    go_quiet(fail)
    have bn:Below wr wr (wr.drewN nq):=below_drewN (Below.refl _ wr) nq;have OWn:=hid (OW.out.below bn);have BBn:=hid (BB.out.trans (bn.mono BB.out.size));clear a0 a1 q0 q1 q2 q3 q4 q5 q6 q7 q8 q9 o0 o1 o2 o3 o4 o5 o6 o7 o8 o9 PB;clear bn OW BB;generalize wr.drewN nq=W at *;obtain⟨a0,a1⟩:=(HA.out.below BBn).two;rw[EA.out]at a1;have PB:=hid (HP.out.below BBn);obtain⟨o0,o1,o2,o3,o4,o5,o6,o7,o8,o9⟩:=PB.out.jE;have CD:Eg W b (off+j*10) (k.O j):=HC.out W BBn.out;have q0:W.cell? ⟨b,off+j*10,none⟩=some (.int .i64 (k.O j).id):=CD.c0;have q1:W.cell? ⟨b,off+j*10+1,none⟩=some (.int .i64 (k.O j).kind):=CD.c1;have q2:W.cell? ⟨b,off+j*10+2,none⟩=some (.int .i64 (k.O j).up):=CD.c2;have q3:W.cell? ⟨b,off+j*10+3,none⟩=some (.int .i64 (k.O j).b1):=CD.c3;have q4:W.cell? ⟨b,off+j*10+4,none⟩=some (.slice (k.O j).c1.a (k.O j).c1.n (k.O j).c1.k):=CD.c4;have q5:W.cell? ⟨b,off+j*10+5,none⟩=some (.string (k.O j).data):=CD.c5;have q6:W.cell? ⟨b,off+j*10+6,none⟩=some (.slice (k.O j).jA.a (k.O j).jA.n (k.O j).jA.k):=CD.c6;have q7:W.cell? ⟨b,off+j*10+7,none⟩=some (.slice (k.O j).own.a (k.O j).own.n (k.O j).own.k):=CD.c7;have q8:W.cell? ⟨b,off+j*10+8,none⟩=some (.int .i64 (k.O j).b2):=CD.c8;have q9:W.cell? ⟨b,off+j*10+9,none⟩=some (.slice (k.O j).c2.a (k.O j).c2.n (k.O j).c2.k):=CD.c9;clear CD;have sV:V.heap.size<=W.heap.size:=BBn.out.size;have n2:No (.cells (k.O j) 51):=⟨⟩;have QO:=hid (OWn.out.below ((Below.refl _ W).alloc nr n2));have QL:Hid (Bh (W.alloc n2) (some ⟨W,0,none⟩) 1 (AY [k.O j])):=hid (Ba.one W (k.O j));have sQ:V.heap.size<=(W.alloc n2).heap.size:=(by simp;omega);have bQ:=hid (BBn.out.alloc BBn.out.size n2);go_wp2_with(at_builtin;refine Ch _ rfl _ _ rfl V (.slice la l.length lc) l rfl QO _ _ (k.O j) rfl QL (by omega) sQ ?_;intro a7 c7 w7 o7 g7;have O7:=hid o7;have B7:Hid (Below V V w7):=hid (bQ.out.trans (below_grown g7 sQ (fun j e=>(World.ownsRow.lt QO j e).1)));clear o7 g7)
    go_roundw;case rel=>exact⟨j+1,true,l++[k.O j],a7,c7,by have:=HLT.out;omega,by go_num,rfl,by simp,Wh AT,by rw[show(l++[k.O j]).length=l.length+1 from by simp];exact O7.out,B7⟩
    case measure=>have:=HLT.out;simp[intOf];omega
   |false=>
    by_cases hx:o.id<(k.O j).id
    ·have hx':decide (o.id<(k.O j).id)=true:=decide_eq_true hx;have HX:=hid hx;go_wp2_with fail
     go_quiet(fail)
     have bn:Below wr wr (wr.drewN nq):=below_drewN (Below.refl _ wr) nq;have OWn:=hid (OW.out.below bn);have BBn:=hid (BB.out.trans (bn.mono BB.out.size));clear a0 a1 q0 q1 q2 q3 q4 q5 q6 q7 q8 q9 o0 o1 o2 o3 o4 o5 o6 o7 o8 o9 PB;clear bn OW BB;generalize wr.drewN nq=W at *;obtain⟨a0,a1⟩:=(HA.out.below BBn).two;rw[EA.out]at a1;have PB:=hid (HP.out.below BBn);obtain⟨o0,o1,o2,o3,o4,o5,o6,o7,o8,o9⟩:=PB.out.jE;have CD:Eg W b (off+j*10) (k.O j):=HC.out W BBn.out;have q0:W.cell? ⟨b,off+j*10,none⟩=some (.int .i64 (k.O j).id):=CD.c0;have q1:W.cell? ⟨b,off+j*10+1,none⟩=some (.int .i64 (k.O j).kind):=CD.c1;have q2:W.cell? ⟨b,off+j*10+2,none⟩=some (.int .i64 (k.O j).up):=CD.c2;have q3:W.cell? ⟨b,off+j*10+3,none⟩=some (.int .i64 (k.O j).b1):=CD.c3;have q4:W.cell? ⟨b,off+j*10+4,none⟩=some (.slice (k.O j).c1.a (k.O j).c1.n (k.O j).c1.k):=CD.c4;have q5:W.cell? ⟨b,off+j*10+5,none⟩=some (.string (k.O j).data):=CD.c5;have q6:W.cell? ⟨b,off+j*10+6,none⟩=some (.slice (k.O j).jA.a (k.O j).jA.n (k.O j).jA.k):=CD.c6;have q7:W.cell? ⟨b,off+j*10+7,none⟩=some (.slice (k.O j).own.a (k.O j).own.n (k.O j).own.k):=CD.c7;have q8:W.cell? ⟨b,off+j*10+8,none⟩=some (.int .i64 (k.O j).b2):=CD.c8;have q9:W.cell? ⟨b,off+j*10+9,none⟩=some (.slice (k.O j).c2.a (k.O j).c2.n (k.O j).c2.k):=CD.c9;clear CD;have sV:V.heap.size<=W.heap.size:=BBn.out.size;have mk1:True:=trivial;have n5:No (.cells o 51):=⟨⟩;have PO:=hid (OWn.out.below ((Below.refl _ W).alloc nr n5));have PL:Hid (Bh (W.alloc n5) (some ⟨W,0,none⟩) 1 (AY [o])):=hid (Ba.one W o);have sP:V.heap.size<=(W.alloc n5).heap.size:=(by simp;omega);have bP:=hid (BBn.out.alloc BBn.out.size n5);go_wp2_with(first
      |(at_builtin;have mq:=mk1;clear mk1 mq;refine Ch _ rfl _ _ rfl V (.slice la l.length lc) l rfl PO _ _ o rfl PL (by omega) sP ?_;intro a6 c6 w6 ow6 g6;have B6:Hid (Below V V w6):=hid (bP.out.trans (below_grown g6 sP (fun j e=>(World.ownsRow.lt PO j e).1)));have O6:=hid (ow6.below ((Below.refl _ w6).alloc (Nat.le_refl _) (.cells (k.O j) 51)));have QL:Hid (Bh (w6.alloc (.cells (k.O j) 51)) (some ⟨w6,0,none⟩) 1 (AY [k.O j])):=hid (Ba.one w6 (k.O j));have s6:V.heap.size<=w6.heap.size:=B6.out.size;have sQ:V.heap.size<=(w6.alloc (.cells (k.O j) 51)).heap.size:=(by simp;omega);have bQ:=hid (B6.out.alloc B6.out.size (.cells (k.O j) 51));clear ow6 g6 a0 a1 q0 q1 q2 q3 q4 q5 q6 q7 q8 q9 o0 o1 o2 o3 o4 o5 o6 o7 o8 o9;obtain⟨a0,a1⟩:=(HA.out.below B6).two;rw[EA.out]at a1;have CE:Eg w6 b (off+j*10) (k.O j):=HC.out w6 B6.out;have q0:w6.cell? ⟨b,off+j*10,none⟩=some (.int .i64 (k.O j).id):=CE.c0;have q1:w6.cell? ⟨b,off+j*10+1,none⟩=some (.int .i64 (k.O j).kind):=CE.c1;have q2:w6.cell? ⟨b,off+j*10+2,none⟩=some (.int .i64 (k.O j).up):=CE.c2;have q3:w6.cell? ⟨b,off+j*10+3,none⟩=some (.int .i64 (k.O j).b1):=CE.c3;have q4:w6.cell? ⟨b,off+j*10+4,none⟩=some (.slice (k.O j).c1.a (k.O j).c1.n (k.O j).c1.k):=CE.c4;have q5:w6.cell? ⟨b,off+j*10+5,none⟩=some (.string (k.O j).data):=CE.c5;have q6:w6.cell? ⟨b,off+j*10+6,none⟩=some (.slice (k.O j).jA.a (k.O j).jA.n (k.O j).jA.k):=CE.c6;have q7:w6.cell? ⟨b,off+j*10+7,none⟩=some (.slice (k.O j).own.a (k.O j).own.n (k.O j).own.k):=CE.c7;have q8:w6.cell? ⟨b,off+j*10+8,none⟩=some (.int .i64 (k.O j).b2):=CE.c8;have q9:w6.cell? ⟨b,off+j*10+9,none⟩=some (.slice (k.O j).c2.a (k.O j).c2.n (k.O j).c2.k):=CE.c9;clear CE;have l6:(l++[o]).length<=1048576:=(by simp;omega);have mk2:True:=trivial)
      |(at_builtin;have mq:=mk2;refine Ch _ rfl _ _ rfl V (.slice a6 (l.length+1) c6) (l++[o]) rfl O6 _ _ (k.O j) rfl QL l6 sQ ?_;intro a7 c7 w7 o7 g7;have O7:=hid o7;have B7:Hid (Below V V w7):=hid (bQ.out.trans (below_grown g7 sQ (fun j e=>(World.ownsRow.lt O6 j e).1)));clear o7 g7))
     go_roundw;case rel=>exact⟨j+1,true,l++[o]++[k.O j],a7,c7,by have:=HLT.out;omega,by go_num,rfl,by simp,Xp AT HX,by rw[show(l++[o]++[k.O j]).length=(l++[o]).length+1 from by simp];exact O7.out,B7⟩
     case measure=>have:=HLT.out;simp[intOf];omega
    ·have hx':decide (o.id<(k.O j).id)=false:=decide_eq_false hx;have HX:=hid hx;go_wp2_with fail
     go_quiet(fail)
     have bn:Below wr wr (wr.drewN nq):=below_drewN (Below.refl _ wr) nq;have OWn:=hid (OW.out.below bn);have BBn:=hid (BB.out.trans (bn.mono BB.out.size));clear a0 a1 q0 q1 q2 q3 q4 q5 q6 q7 q8 q9 o0 o1 o2 o3 o4 o5 o6 o7 o8 o9 PB;clear bn OW BB;generalize wr.drewN nq=W at *;obtain⟨a0,a1⟩:=(HA.out.below BBn).two;rw[EA.out]at a1;have PB:=hid (HP.out.below BBn);obtain⟨o0,o1,o2,o3,o4,o5,o6,o7,o8,o9⟩:=PB.out.jE;have CD:Eg W b (off+j*10) (k.O j):=HC.out W BBn.out;have q0:W.cell? ⟨b,off+j*10,none⟩=some (.int .i64 (k.O j).id):=CD.c0;have q1:W.cell? ⟨b,off+j*10+1,none⟩=some (.int .i64 (k.O j).kind):=CD.c1;have q2:W.cell? ⟨b,off+j*10+2,none⟩=some (.int .i64 (k.O j).up):=CD.c2;have q3:W.cell? ⟨b,off+j*10+3,none⟩=some (.int .i64 (k.O j).b1):=CD.c3;have q4:W.cell? ⟨b,off+j*10+4,none⟩=some (.slice (k.O j).c1.a (k.O j).c1.n (k.O j).c1.k):=CD.c4;have q5:W.cell? ⟨b,off+j*10+5,none⟩=some (.string (k.O j).data):=CD.c5;have q6:W.cell? ⟨b,off+j*10+6,none⟩=some (.slice (k.O j).jA.a (k.O j).jA.n (k.O j).jA.k):=CD.c6;have q7:W.cell? ⟨b,off+j*10+7,none⟩=some (.slice (k.O j).own.a (k.O j).own.n (k.O j).own.k):=CD.c7;have q8:W.cell? ⟨b,off+j*10+8,none⟩=some (.int .i64 (k.O j).b2):=CD.c8;have q9:W.cell? ⟨b,off+j*10+9,none⟩=some (.slice (k.O j).c2.a (k.O j).c2.n (k.O j).c2.k):=CD.c9;clear CD;have sV:V.heap.size<=W.heap.size:=BBn.out.size;have n3:No (.cells (k.O j) 51):=⟨⟩;have QO:=hid (OWn.out.below ((Below.refl _ W).alloc nr n3));have QL:Hid (Bh (W.alloc n3) (some ⟨W,0,none⟩) 1 (AY [k.O j])):=hid (Ba.one W (k.O j));have sQ:V.heap.size<=(W.alloc n3).heap.size:=(by simp;omega);have bQ:=hid (BBn.out.alloc BBn.out.size n3);go_wp2_with(at_builtin;refine Ch _ rfl _ _ rfl V (.slice la l.length lc) l rfl QO _ _ (k.O j) rfl QL (by omega) sQ ?_;intro a7 c7 w7 o7 g7;have O7:=hid o7;have B7:Hid (Below V V w7):=hid (bQ.out.trans (below_grown g7 sQ (fun j e=>(World.ownsRow.lt QO j e).1)));clear o7 g7)
     go_roundw;case rel=>exact⟨j+1,false,l++[k.O j],a7,c7,by have:=HLT.out;omega,by go_num,rfl,by simp,VZ AT (Int.not_lt.2 HX),by rw[show(l++[k.O j]).length=l.length+1 from by simp];exact O7.out,B7⟩
     case measure=>have:=HLT.out;simp[intOf];omega
  ·obtain rfl:j=k.on:=by omega
   have i1:¬(k.on:Int)<(k.on:Int):=(by omega);have rA:=(HA.out.below BB).jC;obtain⟨r0,r1⟩:=(HR.out.below BB).two;have rf:=(HR.out.below BB).jC;cases d with
   |true=>
    have EL:Hid ((Ej o (k.oL k.on)).length=l.length/\Ej o (k.oL k.on)=l):=hid ⟨by rw[AT.out.1],AT.out.1.symm⟩;go_wp2;have KB:=hid (HA.out.below BB);have RB:=hid ((HR.out.below BB).other (Q:=w.heap.size) (i:=1) (by omega) (.slice la l.length lc));have FO:=hid (((Ba.set OW KB (i:=1) (by decide) (.slice la l.length lc)).set RB (i:=0) (by decide) (.slice k.ta k.tn k.tk)).set (RB.out.jB (i:=0) (.slice k.ta k.tn k.tk)) (i:=1) (by decide) (.slice la l.length lc));refine bodyPost_ret (J8 _ _ (w.heap.size+1+1) 4 _ _ Tryz.results113 ((RB.out.jB (i:=0) _).jB (i:=1) _) rfl) rfl ⟨la,lc,by rw[EL.out.1],by rw[EL.out.2];exact FO.out.base HB.out.size,?_⟩;iterate 3 refine Below.setCell ?_ (by dsimp only;omega) _
    exact HB.out.trans (BB.out.mono HB.out.size)
   |false=>
    have EL:Hid ((Ej o (k.oL k.on)).length=l.length+1/\Ej o (k.oL k.on)=l++[o]):=hid (by
     have h:Ej o (k.oL k.on)=l++[o]:=by
      have:=MF (b:=[]) AT.out.2;rw[List.append_nil]at this;rw[this,AT.out.1];rfl
     exact⟨by rw[h];simp,h⟩)
    have n6:No (.cells o 51):=⟨⟩;have PO:=hid (OW.out.below ((Below.refl _ wr).alloc nr n6));have PL:Hid (Bh (wr.alloc n6) (some ⟨wr,0,none⟩) 1 (AY [o])):=hid (Ba.one wr o);have sV:V.heap.size<=wr.heap.size:=BB.out.size;have sP:V.heap.size<=(wr.alloc n6).heap.size:=(by simp;omega);have bP:=hid (BB.out.alloc BB.out.size n6);go_wp2_with(at_builtin;refine Ch _ rfl _ _ rfl V (.slice la l.length lc) l rfl PO _ _ o rfl PL (by omega) sP ?_;intro a6 c6 w6 ow6 g6;have B6:Hid (Below V V w6):=hid (bP.out.trans (below_grown g6 sP (fun j e=>(World.ownsRow.lt PO j e).1)));have O6:=hid ow6;clear ow6 g6 a0 a1 o0 o1 o2 o3 o4 o5 o6 o7 o8 o9 r0 r1 rf rA;obtain⟨a0,a1⟩:=(HA.out.below B6).two;have rA:=(HA.out.below B6).jC;obtain⟨r0,r1⟩:=(HR.out.below B6).two;have rf:=(HR.out.below B6).jC)
    have KB:=hid (HA.out.below B6);have n9:Nv (.slice a6 (l.length+1) c6):=⟨⟩;have RB:=hid ((HR.out.below B6).other (Q:=w.heap.size) (i:=1) (by omega) n9);have FO:=hid (((Ba.set O6 KB (i:=1) (by decide) n9).set RB (i:=0) (by decide) (.slice k.ta k.tn k.tk)).set (RB.out.jB (i:=0) (.slice k.ta k.tn k.tk)) (i:=1) (by decide) n9);refine bodyPost_ret (J8 _ _ (w.heap.size+1+1) 4 _ _ Tryz.results113 ((RB.out.jB (i:=0) _).jB (i:=1) _) rfl) rfl ⟨a6,c6,by rw[EL.out.1],by rw[EL.out.1,EL.out.2];exact FO.out.base HB.out.size,?_⟩;iterate 3 refine Below.setCell ?_ (by dsimp only;omega) _
    exact HB.out.trans (B6.out.mono HB.out.size)
variable {w:World}{α:Type}{t B g i:Nat}{lt:List Af}{lo:List Ae}{u:Value}
structure Bd where
 th:Int
 kind:Int
 id:Int
 «to»:Int
 cat:Int
 data:ByteArray
 b1:Int
 c1:AH
 b2:Int
 c2:AH
instance:Coe Bd (Array Value):=⟨fun s=>#[s.th,s.kind,s.id,s.to,s.cat,.string s.data,s.b1,.slice s.c1.a s.c1.n s.c1.k,s.b2,.slice s.c2.a s.c2.n s.c2.k]⟩
def Bd.cells(s:Bd):Array Value:=s
def Bd.at(w:World)(s:Bd):Prop:=s.c1.at w/\s.c2.at w/\s.data.size<=maxLen
theorem Bd.at.below{w':World}{s:Bd}(h:s.at w)(hb:Below w w w'):s.at w':=⟨h.1.below hb,h.2.1.below hb,h.2.2⟩
theorem Ow{f:α->List Value}{c:Nat}(hl:∀x,(f x).length=c):∀{l:List α}{t i:Nat}{x:α}{u:Value} (ht:t<l.length),i<c->f x=(f l[t]).set i u->((l.map f).flatten).set (t*c+i) u=((l.set t x).map f).flatten
 |[],t,_,_,_,ht,_,_=>absurd ht (Nat.not_lt_zero t)
 |y::r,0,i,x,u,_,hi,h=>by
  show(f y++(r.map f).flatten).set (0*c+i) u=f x++(r.map f).flatten;rw[Nat.zero_mul,Nat.zero_add,List.set_append_left _ _ (by rw[hl];exact hi)];have h':f x=(f y).set i u:=h;rw[h']
 |y::r,t+1,i,x,u,ht,hi,h=>by
  show(f y++(r.map f).flatten).set ((t+1)*c+i) u=f y++((r.set t x).map f).flatten;have e:(t+1)*c+i=(f y).length+(t*c+i):=by rw[hl,Nat.succ_mul];omega
  rw[e,List.set_append_right _ _ (by omega),Nat.add_sub_cancel_left];rw[Ow hl (l:=r) (t:=t) (x:=x) (by simpa using ht) hi h]
theorem Af.jK(x:Af):x.cs.length=7:=rfl
theorem Ae.jK(x:Ae):x.cs.length=10:=rfl
theorem Jl{l:List α}{x y:α}(h:y∈l.set t x):y=x∨y∈l:=by
 rcases List.mem_or_eq_of_mem_set h with h|h
 ·exact .inr h
 ·exact .inl h
theorem Cf.setT{ca:Nat}{vo:Value}(h:Cf w B (.slice g lt.length ca) vo lt lo){x:Af}(ht:t<lt.length)(hi:i<7)(hcs:x.cs=(lt[t]).cs.set i u)(hx:x.new B w)(hc:x.own.n<=x.own.k/\x.own.k<=maxLen):
 Cf (w.setCell ⟨g,t*7+i,none⟩ u) B (.slice g (lt.set t x).length ca) vo (lt.set t x) lo/\(∃cur,Ai w g (.cells cur 47))/\B<=g:=by
 have hg:∃cur,Ai w g (.cells cur 47):=by
  rcases h.t.2 with⟨hv,_⟩|⟨g',cap,cur,hv,_,hgg,_⟩
  ·cases hv
  ·cases hv;exact⟨cur,hgg⟩
 have hBg:B<=g:=(World.ownsRow.lt h.t g rfl).1;obtain⟨cur,hcur⟩:=hg;have kl:=Aw (i:=t*7+i) hcur (by decide) u;have el:(lt.set t x).length=lt.length:=by simp
 have ho:=(World.ownsRow.stored h.t (t*7+i) u).1;refine⟨⟨?_,h.o.set hcur (by decide) u,fun y hy=>?_,fun y hy=>(h.on y hy).keeps kl,fun y hy=>?_,h.oc⟩,⟨cur,hcur⟩,hBg⟩
 ·unfold CV;rw[el];have e:=Ow (f:=Af.cs) Af.jK (l:=lt) (t:=t) (x:=x) (u:=u) ht hi hcs;unfold Ci;rw[<-e];exact ho
 ·rcases Jl hy with rfl|hy
  ·exact hx.keeps kl
  ·exact(h.tn y hy).keeps kl
 ·rcases Jl hy with rfl|hy
  ·exact hc
  ·exact h.tc y hy
theorem Cf.setO{co:Nat}{vt:Value}(h:Cf w B vt (.slice g lo.length co) lt lo){x:Ae}(ht:t<lo.length)(hi:i<10)(hcs:x.cs=(lo[t]).cs.set i u)(hx:x.new B w)(hc:x.jA.n<=x.jA.k/\x.jA.k<=maxLen):
 Cf (w.setCell ⟨g,t*10+i,none⟩ u) B vt (.slice g (lo.set t x).length co) lt (lo.set t x)/\(∃cur,Ai w g (.cells cur 51))/\B<=g:=by
 have hg:∃cur,Ai w g (.cells cur 51):=by
  rcases h.o.2 with⟨hv,_⟩|⟨g',cap,cur,hv,_,hgg,_⟩
  ·cases hv
  ·cases hv;exact⟨cur,hgg⟩
 have hBg:B<=g:=(World.ownsRow.lt h.o g rfl).1;obtain⟨cur,hcur⟩:=hg;have kl:=Aw (i:=t*10+i) hcur (by decide) u;have el:(lo.set t x).length=lo.length:=by simp
 have ho:=(World.ownsRow.stored h.o (t*10+i) u).1;refine⟨⟨h.t.set hcur (by decide) u,?_,fun y hy=>(h.tn y hy).keeps kl,fun y hy=>?_,h.tc,fun y hy=>?_⟩,⟨cur,hcur⟩,hBg⟩
 ·unfold Ba;rw[el];have e:=Ow (f:=Ae.cs) Ae.jK (l:=lo) (t:=t) (x:=x) (u:=u) ht hi hcs;unfold AY;rw[<-e];exact ho
 ·rcases Jl hy with rfl|hy
  ·exact hx.keeps kl
  ·exact(h.on y hy).keeps kl
 ·rcases Jl hy with rfl|hy
  ·exact hc
  ·exact h.oc y hy
variable {n k:Nat}{x:Int}{f g:Nat->Int}
def NH(base:Int)(n:Nat)(f g:Nat->Int)(x:Int):Int:=(look f g n x).getD base
theorem Xa(h:∀i,i<k->f i≠x):look f g k x=none:=by
 induction k with
 |zero=>rfl
 |succ k ih=>simp only[look];rw[if_neg (h k (by omega))];exact ih fun i hi=>h i (by omega)
theorem Xc(hr:∀j,j<n->∀i,i<j->f i<f j)(hk:k<n):look f g n (f k)=some (g k):=by
 induction n with
 |zero=>omega
 |succ n ih=>
  simp only[look];by_cases e:k=n
  ·subst e;rw[if_pos rfl]
  ·have:=hr n (by omega) k (by omega);rw[if_neg (by omega)];exact ih (fun j hj i hi=>hr j (by omega) i hi) (by omega)
theorem M4(base:Int)(a:Option Addr)(n cap:Nat)(f g:Nat->Int)(x:Int)(w:World)(hn:n<=maxLen)(hc:Bi w a n f g)(hr:∀j,j<n->∀i,i<j->f i<f j):
 Calls prog 139 #[.agg #[.int .i64 base,.slice a n cap],.int .i64 x] w fun e w'=>e= .returned (.int .i64 (NH base n f g x))/\Below w w w':=by
 unfold maxLen at hn;have hb0:=CY w (.cells #[.int .i64 base,.slice a n cap] 44);have hc1:=hc.below hb0;have HR:Hid (∀j,j<n->∀i,i<j->f i<f j):=hr;clear hc hr;go_enter func139,ntmps139
 go_wp2;go_loop [5] (fun i=>∃k:Nat,k<=n/\i= .int .i64 k/\(∀j,j<k->f j≠x)) (fun i=>n-(intOf i).toNat)
 case atStart=>exact⟨0,Nat.zero_le _,rfl,fun j hj=>by omega⟩
 case round=>
  obtain⟨k,hk,rfl,hall⟩:=hrel;have HA:Hid (∀j,j<k->f j≠x):=hall;clear hall;by_cases hlt':k<n
  ·obtain⟨b,off,rfl,hlt,hcc⟩:=hc1 (by omega);obtain⟨g1,g2⟩:=hcc k hlt';clear hcc hc1;by_cases t:(f k==x)=true
   ·go_wp2;go_ret;have t':f k=x:=(by simpa using t);exact⟨GI (by rw[<-t',NH,Xc HR.out hlt'];rfl),hb0⟩
   ·have t':(f k==x)=false:=(by simpa using t);clear t;go_wp2;go_round;case rel=>
     refine⟨k+1,by omega,by go_num,fun j hj=>?_⟩;by_cases e:j=k
     ·subst e;simpa using t'
     ·exact HA.out j (by omega)
    case measure=>simp[intOf];omega
  ·clear hc1;go_wp2;go_ret;have e:k=n:=(by omega);subst e;exact⟨GI (by rw[NH,Xa HA.out];rfl),hb0⟩
variable {n k na no nb:Nat}{h fa ga ho fb gb:Nat->Int}{x ba bb:Int}
def hasB(n:Nat)(h:Nat->Int)(x:Int):Bool:=(List.range n).any (fun i=>h i==x)
theorem Zv(hk:k<n)(e:h k=x):hasB n h x=true:=by
 unfold hasB;rw[List.any_eq_true];exact⟨k,List.mem_range.2 hk,by simpa using e⟩
theorem aP(e:∀i,i<n->h i≠x):hasB n h x=false:=by
 unfold hasB;rw[List.any_eq_false];intro i hi;simpa using e i (List.mem_range.1 hi)
theorem Ki(a:Option Addr)(n cap:Nat)(h:Nat->Int)(x:Int)(w:World)(hn:n<=maxLen)(hc:Ce w a n h):
 Calls prog 111 #[.slice a n cap,.int .i64 x] w fun e w'=>e= .returned (.bool (hasB n h x))/\w'=w:=by
 unfold maxLen at hn;go_enter func111,ntmps111
 go_wp2;go_loop [5] (fun i=>∃k:Nat,k<=n/\i= .int .i64 k/\(∀j,j<k->h j≠x)) (fun i=>n-(intOf i).toNat)
 case atStart=>exact⟨0,Nat.zero_le _,rfl,fun j hj=>by omega⟩
 case round=>
  obtain⟨k,hk,rfl,hall⟩:=hrel;have HA:Hid (∀j,j<k->h j≠x):=hall;clear hall;by_cases hlt':k<n
  ·obtain⟨b,off,rfl,hlt,hcc⟩:=hc (by omega);have g1:=hcc k hlt';clear hcc hc;by_cases t:(h k==x)=true
   ·go_wp2;go_ret;exact⟨Ag (Zv hlt' (by simpa using t)).symm,rfl⟩
   ·have t':(h k==x)=false:=(by simpa using t);clear t;go_wp2;go_round;case rel=>
     refine⟨k+1,by omega,by go_num,fun j hj=>?_⟩;by_cases e:j=k
     ·subst e;simpa using t'
     ·exact HA.out j (by omega)
    case measure=>simp[intOf];omega
  ·clear hc;go_wp2;go_ret;have e:k=n:=(by omega);subst e;exact⟨Ag (aP HA).symm,rfl⟩
def Mb(ba:Int)(na:Nat)(fa ga:Nat->Int)(no:Nat)(ho:Nat->Int)(bb:Int)(nb:Nat)(fb gb:Nat->Int)(x:Int):Bool:=
 hasB no ho x|| !decide (NH bb nb fb gb x<NH ba na fa ga x)
def Dh(ba:Int)(na:Nat)(fa ga:Nat->Int)(no:Nat)(ho:Nat->Int)(bb:Int)(nb:Nat)(fb gb:Nat->Int):Bool:=
 decide (ba<=bb)&&(List.range (na+nb)).all (fun i=>Mb ba na fa ga no ho bb nb fb gb (glue na fa fb i))
theorem Um(h:bb<ba):Dh ba na fa ga no ho bb nb fb gb=false:=by
 have:decide (ba<=bb)=false:=by simp;omega
 simp[Dh,this]
theorem XZ(hk:k<na+nb)(h:Mb ba na fa ga no ho bb nb fb gb (glue na fa fb k)=false):Dh ba na fa ga no ho bb nb fb gb=false:=by
 have:(List.range (na+nb)).all (fun i=>Mb ba na fa ga no ho bb nb fb gb (glue na fa fb i))=false:=by
  rw[List.all_eq_false];exact⟨k,List.mem_range.2 hk,by simp[h]⟩
 simp[Dh,this]
theorem Yi(h0:ba<=bb)(h:∀i,i<na+nb->Mb ba na fa ga no ho bb nb fb gb (glue na fa fb i)=true):Dh ba na fa ga no ho bb nb fb gb=true:=by
 have:(List.range (na+nb)).all (fun i=>Mb ba na fa ga no ho bb nb fb gb (glue na fa fb i))=true:=by
  rw[List.all_eq_true];intro i hi;exact h i (List.mem_range.1 hi)
 simp[Dh,this,h0]
theorem GP(ba:Int)(aa:Option Addr)(na ka:Nat)(fa ga:Nat->Int)(ao:Option Addr)(no ko:Nat)(ho:Nat->Int)(bb:Int)(ab:Option Addr)(nb kb:Nat)(fb gb:Nat->Int)(w:World)
 (hna:na<=1048576)(hnb:nb<=1048576)(hno:no<=maxLen)(hca:Bi w aa na fa ga)(hcb:Bi w ab nb fb gb)(hco:Ce w ao no ho)
 (hra:∀j,j<na->∀i,i<j->fa i<fa j)(hrb:∀j,j<nb->∀i,i<j->fb i<fb j):
 Calls prog 109 #[.agg #[.int .i64 ba,.slice aa na ka],.slice ao no ko,.agg #[.int .i64 bb,.slice ab nb kb]] w fun e w'=>e= .returned (.bool (Dh ba na fa ga no ho bb nb fb gb))/\Below w w w':=by
 have n3:Na #[.int .i64 ba,.slice aa na ka]:=⟨⟩;have n4:Na #[.int .i64 bb,.slice ab nb kb]:=⟨⟩;have hb0:=(CY w (.cells n3 44)).alloc (by simp) (.cells n4 44);by_cases h0:bb<ba
 ·go_enter func109,ntmps109
  go_wp2;go_ret;exact⟨Ag (Um h0).symm,hb0⟩
 ·go_enter func109,ntmps109
  go_wp2_with fail
  have n1:Nw ((w.alloc (.cells n3 44)).alloc (.cells n4 44)):=⟨⟩;have own0:As (((n1:World).alloc (.cells #[] 96)).drew) (w.heap.size+1+1) (.slice (some ⟨w.heap.size+1+1,0,none⟩) 0 0) 0 (fun _=>0) (fun _=>0):=by
   have:=World.ownsRow_made (base:=w.heap.size+1+1) (e:=96) (size:=2) n1 #[] 0 (by simp) (Nat.zero_le _) rfl;simp at this;exact this
  have B0:=(hb0.alloc (by simp;omega) (.cells #[] 96)).drew;have C0a:=hca.below B0;obtain⟨D0,hD0⟩:∃D0,D0=((n1:World).alloc (.cells #[] 96)).drew:=⟨_,rfl⟩;have d1:D0.cell? ⟨w,0,none⟩=some (.int .i64 ba):=by rw[hD0];go_simp
  have d2:D0.cell? ⟨w,1,none⟩=some (.slice aa na ka):=by rw[hD0];go_simp
  have d3:D0.cell? ⟨w.heap.size+1,0,none⟩=some (.int .i64 bb):=by rw[hD0];go_simp
  have d4:D0.cell? ⟨w.heap.size+1,1,none⟩=some (.slice ab nb kb):=by rw[hD0];go_simp
  have dz:w.heap.size+1+1<=D0.heap.size:=by rw[hD0];simp
  have n2:Nw (((w.alloc (.cells n3 44)).alloc (.cells n4 44)).alloc (.cells #[] 96)):=⟨⟩;have HD:Hid (D0=(n2:World).drew):=hD0;have GG:∀w1,((n2:World).drew).grownBy w1 (Value.slice (some ⟨w.heap.size+1+1,0,none⟩) 0 0).ownBlock->Below (w.heap.size+1+1) D0 w1:=fun w1 hg=>by
   rw[<-HD.out]at hg;exact(Below.refl _ _).grown hg dz (fun k e=>by cases e;exact Nat.le_refl _)
  have B0':Below w w D0:=by rw[hD0];exact B0
  clear hD0;go_region_held3(fun w'=>w'.cell? ⟨w,0,none⟩=some (.int .i64 ba)/\w'.cell? ⟨w,1,none⟩=some (.slice aa na ka)/\w'.cell? ⟨w.heap.size+1,0,none⟩=some (.int .i64 bb)/\w'.cell? ⟨w.heap.size+1,1,none⟩=some (.slice ab nb kb)) (go_keep)
   (first
     |(refine Ig _ (by rfl) _ _ (by rfl) (w.heap.size+1+1) _ (fun _=>0) (fun _=>0) (by rfl) own0 aa na ka fa ga (by rfl) C0a (by omega) (by simp) ?_;intro a1 c1 w1 hown1 hgrow1 hat1;have G1:=GG w1 hgrow1;have p1:=(G1.cell (p:=⟨w,0,none⟩) (by dsimp only;omega)).trans d1;have p2:=(G1.cell (p:=⟨w,1,none⟩) (by dsimp only;omega)).trans d2;have p3:=(G1.cell (p:=⟨w.heap.size+1,0,none⟩) (by dsimp only;omega)).trans d3;have p4:=(G1.cell (p:=⟨w.heap.size+1,1,none⟩) (by dsimp only;omega)).trans d4;have s1:w.heap.size+1+1<=w1.heap.size:=Nat.le_trans dz G1.size;have B1:Below w w w1:=B0'.trans (G1.mono (by omega));have C1b:=hcb.below B1)
     |(refine Ez _ (by rfl) _ _ (by rfl) (w.heap.size+1+1) _ na fa ga (by rfl) hown1 ab nb kb fb gb (by rfl) C1b (by omega) s1 ?_;intro a2 c2 w2 hown2 hgrow2 hat2;have G2:Below (w.heap.size+1+1) w1 w2:=(Below.refl _ _).grown hgrow2 s1 (fun k e=>(World.ownsRow.lt hown1 k e).1);have q1:=(G2.cell (p:=⟨w,0,none⟩) (by dsimp only;omega)).trans p1;have q2:=(G2.cell (p:=⟨w,1,none⟩) (by dsimp only;omega)).trans p2;have q3:=(G2.cell (p:=⟨w.heap.size+1,0,none⟩) (by dsimp only;omega)).trans p3;have q4:=(G2.cell (p:=⟨w.heap.size+1,1,none⟩) (by dsimp only;omega)).trans p4;have s2:w.heap.size+1+1<=w2.heap.size:=Nat.le_trans s1 G2.size;have B2:Below w w w2:=B1.trans (G2.mono (by omega))))
  have C2:=As.cats hown2;have C2a:=hca.below B2;have C2b:=hcb.below B2;have C2o:=hco.below B2;clear p1 p2 p3 p4 d1 d2 d3 d4 hca hcb hco B0 C0a own0 hb0 hown1 hgrow1 hat1 hgrow2 hat2 hown2 G1 G2 GG HD s1 C1b B1 dz B0';go_wp2;go_loopw [8] (fun i wr=>∃k:Nat,k<=na+nb/\i= .int .i64 k/\(∀j,j<k->Mb ba na fa ga no ho bb nb fb gb (glue na fa fb j)=true)/\Below w2 w2 wr) (fun i _=>na+nb-(intOf i).toNat)
  case atStart=>exact⟨0,Nat.zero_le _,rfl,fun j hj=>by omega,Below.refl _ _⟩
  case round=>
   obtain⟨k,hk,rfl,hall,hB⟩:=hrel;have HA:Hid (∀j,j<k->Mb ba na fa ga no ho bb nb fb gb (glue na fa fb j)=true):=hall;clear hall;have Bw:Below w w wr:=B2.trans (hB.mono (by omega));by_cases hlt':k<na+nb
   ·obtain⟨b,off,rfl,hlt,hcc⟩:=C2 (by omega);have r5:=(hB.cell (p:=⟨b,off+k*2,none⟩) hlt).trans (hcc k hlt').1;have r1:=(hB.cell (p:=⟨w,0,none⟩) (by dsimp only;omega)).trans q1;have r2:=(hB.cell (p:=⟨w,1,none⟩) (by dsimp only;omega)).trans q2;have r3:=(hB.cell (p:=⟨w.heap.size+1,0,none⟩) (by dsimp only;omega)).trans q3;have r4:=(hB.cell (p:=⟨w.heap.size+1,1,none⟩) (by dsimp only;omega)).trans q4;have i0:(0:Int)<=(k:Int):=(by omega);have i1:(k:Int)<((na+nb:Nat):Int):=(by omega);have i1':(k:Int)<(na:Int)+(nb:Int):=(by omega);have y1:w.heap.size<wr.heap.size:=(by have:=hB.size;omega);have y2:w.heap.size+1<wr.heap.size:=(by have:=hB.size;omega);have y3:b<wr.heap.size:=(by have:=hB.size;omega);have Ca:Bi wr.drew aa na fa ga:=(C2a.below hB).below (Below.refl _ _).drew;have Cb:Bi wr.drew ab nb fb gb:=(C2b.below hB).below (Below.refl _ _).drew;have Co:Ce wr ao no ho:=C2o.below hB;obtain⟨x,hx⟩:∃x,x=glue na fa fb k:=⟨_,rfl⟩;rw[<-hx]at r5;have HX:Hid (x=glue na fa fb k):=hx;clear hx hcc C2 C2a C2b C2o q1 q2 q3 q4;by_cases t:hasB no ho x=true
    ·clear Ca Cb;have t':Mb ba na fa ga no ho bb nb fb gb x=true:=(by simp[Mb,t]);have HT:Hid (Mb ba na fa ga no ho bb nb fb gb x=true):=t';clear t';go_wp2_with fail
     have CoN:∀m,Ce (wr.drewN m) ao no ho:=fun m=>Co.below (below_drewN (Below.refl _ _) m);go_quiet((go_at_call 111;exact Calls.quiet_of_same (Ki _ _ _ ho _ _ hno (CoN _))))
     clear CoN;go_wp2;go_roundw;case rel=>
      refine⟨k+1,by omega,by go_num,fun j hj=>?_,below_drewN hB _⟩;by_cases e:j=k
      ·subst e;rw[<-HX.out];exact HT.out
      ·exact HA.out j (by omega)
     case measure=>simp[intOf];omega
    ·have t0:hasB no ho x=false:=(by simpa using t);clear t;have Co':Ce wr.drew ao no ho:=Co.below (Below.refl _ _).drew;have HRA:Hid (∀j,j<na->∀i,i<j->fa i<fa j):=hra;have HRB:Hid (∀j,j<nb->∀i,i<j->fb i<fb j):=hrb;have ma:na<=maxLen:=(by unfold maxLen;omega);have mb:nb<=maxLen:=(by unfold maxLen;omega);clear Co hra hrb;go_wp2_with fail
     go_region_held3(fun w'=>w'.cell? ⟨w,0,none⟩=some (.int .i64 ba)/\w'.cell? ⟨w,1,none⟩=some (.slice aa na ka)/\w'.cell? ⟨w.heap.size+1,0,none⟩=some (.int .i64 bb)/\w'.cell? ⟨w.heap.size+1,1,none⟩=some (.slice ab nb kb)/\w'.cell? ⟨b,off+k*2,none⟩=some (.int .i64 x)) (go_keep)
      (first
        |(go_at_call 111;refine(Ki _ _ _ ho _ _ hno Co').mono ?_;rintro e w' ⟨rfl,rfl⟩)
        |(go_at_call 139;refine(M4 bb ab nb kb fb gb x _ mb (Cb.below hb1) HRB).mono ?_;rintro e v2 ⟨rfl,hb2⟩;have u1:=(hb2.cell (p:=⟨w,0,none⟩) (Nat.lt_of_lt_of_le y1 hb1.size)).trans p1;have u2:=(hb2.cell (p:=⟨w,1,none⟩) (Nat.lt_of_lt_of_le y1 hb1.size)).trans p2;have u3:=(hb2.cell (p:=⟨w.heap.size+1,0,none⟩) (Nat.lt_of_lt_of_le y2 hb1.size)).trans p3;have u4:=(hb2.cell (p:=⟨w.heap.size+1,1,none⟩) (Nat.lt_of_lt_of_le y2 hb1.size)).trans p4;have u5:=(hb2.cell (p:=⟨b,off+k*2,none⟩) (Nat.lt_of_lt_of_le y3 hb1.size)).trans p5)
        |(go_at_call 139;refine(M4 ba aa na ka fa ga x _ ma Ca HRA).mono ?_;rintro e v1 ⟨rfl,hb1⟩;have p1:=(hb1.cell (p:=⟨w,0,none⟩) y1).trans r1;have p2:=(hb1.cell (p:=⟨w,1,none⟩) y1).trans r2;have p3:=(hb1.cell (p:=⟨w.heap.size+1,0,none⟩) y2).trans r3;have p4:=(hb1.cell (p:=⟨w.heap.size+1,1,none⟩) y2).trans r4;have p5:=(hb1.cell (p:=⟨b,off+k*2,none⟩) y3).trans r5))
     have hBv:Below w2 w2 v2:=(hB.drew.trans (hb1.mono hB.size)).trans (hb2.mono (Nat.le_trans hB.size hb1.size));clear r1 r2 r3 r4 r5 p1 p2 p3 p4 p5 u1 u2 u3 u4 u5 Ca Cb Co' hb1 hb2 HRA HRB;by_cases t1:NH bb nb fb gb x<NH ba na fa ga x
     ·have HT:Hid (Mb ba na fa ga no ho bb nb fb gb x=false):=(by show _=_;simp[Mb,t0,t1]);go_wp2;go_ret;refine⟨Ag (XZ hlt' ?_).symm,B2.trans (hBv.mono (by omega))⟩;rw[<-HX.out];exact HT.out
     ·have HT:Hid (Mb ba na fa ga no ho bb nb fb gb x=true):=(by show _=_;simp[Mb,t0,t1]);go_wp2;go_roundw;case rel=>
       refine⟨k+1,by omega,by go_num,fun j hj=>?_,hBv⟩;by_cases e:j=k
       ·subst e;rw[<-HX.out];exact HT.out
       ·exact HA.out j (by omega)
      case measure=>simp[intOf];omega
   ·go_wp2;go_ret;have e:k=na+nb:=(by omega);exact⟨Ag (Yi h0 (fun i hi=>HA i (by omega))).symm,Bw⟩
theorem On(id made b1:Int)(a1:Option Addr)(n1 k1:Nat)(f1 g1:Nat->Int)(b2:Int)(a2:Option Addr)(n2 k2:Nat)(f2 g2:Nat->Int)(a3:Option Addr)(n3 k3:Nat)(h:Nat->Int)(bl:Int)(al:Option Addr)(nl kl:Nat)(fl gl:Nat->Int)(w:World)(_hn1:n1<=maxLen)(_hn2:n2<=maxLen)(hn3:n3<=maxLen)(hc1:Bi w a1 n1 f1 g1)(_hc2:Bi w a2 n2 f2 g2)(hc3:Ce w a3 n3 h)(_hnl:nl<=maxLen)(hcl:Bi w al nl fl gl)(hm1:n1<=1048576)(hml:nl<=1048576)(hr1:∀j,j<n1->∀i,i<j->f1 i<f1 j)(hrl:∀j,j<nl->∀i,i<j->fl i<fl j):
 Calls prog 116 #[.agg #[.int .i64 id,.int .i64 b1,.slice a1 n1 k1,.int .i64 b2,.slice a2 n2 k2,.slice a3 n3 k3,.int .i64 made],.agg #[.int .i64 bl,.slice al nl kl]] w fun e w'=>e= .returned (.bool (Dh bl nl fl gl n3 h b1 n1 f1 g1))/\Below w w w':=by
 have n4:No (.cells #[.int .i64 id,.int .i64 b1,.slice a1 n1 k1,.int .i64 b2,.slice a2 n2 k2,.slice a3 n3 k3,.int .i64 made] 47):=⟨⟩;have n5:No (.cells #[.int .i64 bl,.slice al nl kl] 44):=⟨⟩;have hb0:=((Below.refl _ w).alloc nr n4).alloc (by simp) n5;have yT:Ai ((w.alloc n4).alloc n5) w n4:=(Ai.new w _).alloc _;have yL:Ai ((w.alloc n4).alloc n5) (w.heap.size+1) n5:=by have:=Ai.new (w.alloc n4) n5;simpa using this
 go_enter func116,ntmps116
 go_wp2_with fail
 refine(GP _ _ _ _ fl gl _ _ _ h _ _ _ _ f1 g1 _ hml hm1 hn3 (hcl.below hb0) (hc1.below hb0) (hc3.below hb0) hrl hr1).mono ?_;rintro e w1 ⟨rfl,hb1⟩;have B1:Below w w w1:=hb0.trans (hb1.mono (by simp;omega));clear yT yL hb0 hb1;go_wp2;go_ret;exact⟨rfl,B1⟩
theorem Qg(id made b1:Int)(a1:Option Addr)(n1 k1:Nat)(f1 g1:Nat->Int)(b2:Int)(a2:Option Addr)(n2 k2:Nat)(f2 g2:Nat->Int)(a3:Option Addr)(n3 k3:Nat)(h:Nat->Int)(bl:Int)(al:Option Addr)(nl kl:Nat)(fl gl:Nat->Int)(w:World)(hn1:n1<=maxLen)(hn2:n2<=maxLen)(hn3:n3<=maxLen)(hc1:Bi w a1 n1 f1 g1)(hc2:Bi w a2 n2 f2 g2)(hc3:Ce w a3 n3 h)(hnl:nl<=maxLen)(hcl:Bi w al nl fl gl)(hm1:n1<=1048576)(hml:nl<=1048576)(hr1:∀j,j<n1->∀i,i<j->f1 i<f1 j)(hrl:∀j,j<nl->∀i,i<j->fl i<fl j):
 Calls prog 112 #[.agg #[.int .i64 id,.int .i64 b1,.slice a1 n1 k1,.int .i64 b2,.slice a2 n2 k2,.slice a3 n3 k3,.int .i64 made],.agg #[.int .i64 bl,.slice al nl kl]] w fun e w'=>e= .returned (.bool (Dh bl nl fl gl n3 h b1 n1 f1 g1&&Dh b1 n1 f1 g1 n3 h bl nl fl gl))/\Below w w w':=by
 have n4:No (.cells #[.int .i64 id,.int .i64 b1,.slice a1 n1 k1,.int .i64 b2,.slice a2 n2 k2,.slice a3 n3 k3,.int .i64 made] 47):=⟨⟩;have n5:No (.cells #[.int .i64 bl,.slice al nl kl] 44):=⟨⟩;have hb0:=((Below.refl _ w).alloc nr n4).alloc (by simp) n5;have yT:Ai ((w.alloc n4).alloc n5) w n4:=(Ai.new w _).alloc _;have yL:Ai ((w.alloc n4).alloc n5) (w.heap.size+1) n5:=by have:=Ai.new (w.alloc n4) n5;simpa using this
 go_enter func112,ntmps112
 go_wp2_with fail
 refine(On _ _ _ _ _ _ f1 g1 _ _ _ _ f2 g2 _ _ _ h _ _ _ _ fl gl _ hn1 hn2 hn3 (hc1.below hb0) (hc2.below hb0) (hc3.below hb0) hnl (hcl.below hb0) hm1 hml hr1 hrl).mono ?_;rintro e w1 ⟨rfl,hb1⟩;have B1:Below w w w1:=hb0.trans (hb1.mono (by simp;omega));have xT:=yT.below hb1;have xL:=yL.below hb1;obtain⟨x0,x1,x2,x3,x4,x5,x6⟩:=xT.seven;obtain⟨x7,x8⟩:=xL.two;clear yT yL hb0 hb1;by_cases t1:Dh bl nl fl gl n3 h b1 n1 f1 g1=true
 ·go_wp2_with fail
  refine(GP _ _ _ _ f1 g1 _ _ _ h _ _ _ _ fl gl _ hm1 hml hn3 (hc1.below B1) (hcl.below B1) (hc3.below B1) hr1 hrl).mono ?_;rintro e w2 ⟨rfl,hb2⟩;have B2:Below w w w2:=B1.trans (hb2.mono B1.size);clear x0 x1 x2 x3 x4 x5 x6 x7 x8 xT xL;go_wp2;go_ret;exact⟨Ag (by rw[t1];rfl),B2⟩
 ·have t1':Dh bl nl fl gl n3 h b1 n1 f1 g1=false:=by simpa using t1
  clear t1;go_wp2;go_ret;exact⟨Ag (by rw[t1'];rfl),B1⟩
end Go.Proofs.YtblapfnglojgjaaGreatDoor
