import Derived.Test.YtdaccbddcjlkpaaGreatDoorZ4p
set_option maxRecDepth 100000
set_option maxHeartbeats 16000000
namespace Go.Proofs.YtdaccbddcjlkpaaGreatDoor
open Go Go.RowKit Go.Deep Go.Maps Go.Proofs.Tryz
open Go.Value renaming slice→qV,int→iT
open Go.IntKind renaming i64→qH
open Go.Obj renaming cells→qG
open Go.World renaming ownsRow→qq
open _root_.List renaming mem_cons→kQ,mem_cons_self→kX,not_mem_nil→kH,mem_cons_of_mem→xQ,length_cons→kN,mem_singleton→kW
open Go.RowKit renaming Below→qN
variable {o:Ab}{k:Av}{j:Nat}{l:List Ab}
def Bs(o:Ab):List Ab->List Ab
 |[]=>[o]
 |x::r=>if o.id<x.id then o::x::r else x::Bs o r
theorem QP:∀{a b:List Ab},(∃y∈a,o.id<y.id)->Bs o (a++b)=Bs o a++b
 |[],b,h=>by obtain⟨y,hy,_⟩:=h;exact absurd hy kH
 |x::a,b,h=>by
  show Bs o (x::(a++b))=Bs o (x::a)++b;unfold Bs;split
  ·rfl
  ·rename_i hx;obtain⟨y,hy,hl⟩:=h;rcases kQ.1 hy with rfl|hy
   ·exact absurd hl hx
   ·rw[QP ⟨y,hy,hl⟩];rfl
theorem MA:∀{a b:List Ab},(∀y∈a,¬o.id<y.id)->Bs o (a++b)=a++Bs o b
 |[],b,_=>rfl
 |x::a,b,h=>by
  show Bs o (x::(a++b))=_;rw[Bs,if_neg (h x kX),MA (fun y hy=>h y (xQ _ hy))];rfl
theorem LF:∀{a:List Ab},(Bs o a).length=a.length+1
 |[]=>rfl
 |x::a=>by
  unfold Bs;split
  ·simp
  ·rw[kN,LF,kN]
theorem LG{x:Ab}:∀{a:List Ab},x∈Bs o a->x=o∨x∈a
 |[],h=> .inl (kW.1 h)
 |y::a,h=>by
  unfold Bs at h;split at h
  ·rcases kQ.1 h with h|h
   ·exact .inl h
   ·exact .inr h
  ·rcases kQ.1 h with h|h
   ·exact .inr (h▸kX)
   ·rcases LG h with h|h
    ·exact .inl h
    ·exact .inr (xQ _ h)
def Av.oL(k:Av)(j:Nat):List Ab:=(List.range j).map k.O
def J9(k:Av)(j:Nat):k.oL (j+1)=k.oL j++[k.O j]:=by unfold Av.oL;rw[List.range_succ,List.map_append];rfl
def Zy(k:Av)(j:Nat):(k.oL j).length=j:=by simp[Av.oL]
def MU(k:Av)(o:Ab)(j:Nat):Bool->List Ab->Prop
 |false,l=>l=k.oL j/\∀y∈k.oL j,¬o.id<y.id
 |true,l=>l=Bs o (k.oL j)/\∃y∈k.oL j,o.id<y.id
def Ws(h:MU k o j false l)(hx:¬o.id<(k.O j).id):MU k o (j+1) false (l++[k.O j]):=by
 refine⟨by rw[J9,h.1],fun y hy=>?_⟩;rw[J9]at hy;rcases List.mem_append.1 hy with hy|hy
 ·exact h.2 y hy
 ·rw[kW.1 hy];exact hx
def Yo(h:MU k o j false l)(hx:o.id<(k.O j).id):MU k o (j+1) true (l++[o]++[k.O j]):=by
 refine⟨?_,k.O j,by rw[J9];exact List.mem_append_right _ kX,hx⟩;rw[J9,MA h.2,h.1,Bs,if_pos hx,List.append_assoc];rfl
def Wi(h:MU k o j true l):MU k o (j+1) true (l++[k.O j]):=by
 obtain⟨h1,y,hy,hl⟩:=h;refine⟨by rw[J9,QP ⟨y,hy,hl⟩,h1],y,by rw[J9];exact List.mem_append_left _ hy,hl⟩
theorem Xm:∀{b:Bool}{l:List Ab},MU k o j b l->l.length<=j+1
 |false,_,h=>by rw[h.1,Zy];omega
 |true,_,h=>by rw[h.1,LF,Zy];omega
def YM(k:Av)(o:Ab)(w:World)(hk:k.at w)(hn:k.on<=1048000):
 Calls prog 96 #[k.val,.agg o] w fun e w'=>∃(oa:Option Addr) (co:Nat),e= .returned (.agg #[qV k.ta k.tn k.tk,qV oa (Bs o (k.oL k.on)).length co])/\AW w' w (qV oa (Bs o (k.oL k.on)).length co) (Bs o (k.oL k.on))/\qN w w w':=by
 have n4:No (qG o 59):=⟨⟩;have n7:No (qG #[qV k.ta k.tn k.tk,qV k.oa k.on k.ok] 27):=⟨⟩;have n8:No (qG #[qV none 0 0,qV none 0 0] 27):=⟨⟩;have n1:Nw (((w.alloc n7).alloc n4).alloc n8):=⟨⟩;have b0:qN w w n1:=((Bg w _).alloc sI _).alloc sO _;have A0:Ag n1 w n7:=((Ag.new w n7).alloc _).alloc _;have P0:Ag n1 (w.heap.size+1) n4:=by have:=(Ag.new (w.alloc n7) n4).alloc n8;simpa using this
 have R0:Ag n1 (w.heap.size+1+1) n8:=by have:=Ag.new ((w.alloc n7).alloc n4) n8;simpa using this
 have HO:=qC (hk.2.2.2.below b0);have HB:=qC b0;have lV:Hid ((n1:World).heap.size=w.heap.size+3):=qC sI;have E0:Hid (AW ((n1:World).alloc (qG #[] 59)) (n1:World).heap.size (qV (some ⟨w.heap.size+1+1+1,0,none⟩) 0 0) []):=qC (by
  have h:=AW.made n1 (n1:World).heap.size nr;rw[show(some ⟨(n1:World).heap.size,0,none⟩:Option Addr)=some ⟨w.heap.size+1+1+1,0,none⟩ from by simp]at h;exact h)
 have BE:=qC (Bg n1 (qG #[] 59));have HA:=qC A0;have HP:=qC P0;have HR:=qC R0;unfold Av.val;clear hk b0 A0 P0 R0;go_enter func96,ntmps96
 go_wp2;generalize (n1:World)=V at *;go_loopw [5,6,7] (fun v d i wr=>∃(j:Nat) (b:Bool) (l:List Ab) (la:Option Addr) (lc:Nat),j<=k.on/\i= iT qH j/\d= .bool b/\v= qV la l.length lc/\MU k o j b l/\AW wr V (qV la l.length lc) l/\qN V V wr) (fun _ _ i _=>k.on-(intOf i).toNat)
 case atStart=>exact⟨0,false,[],_,0,Nat.zero_le _,rfl,rfl,rfl,⟨rfl,fun y hy=>absurd hy kH⟩,E0,BE⟩
 case round=>
  clear E0 BE;obtain⟨j,d,l,la,lc,hj,rfl,rfl,rfl,ad,ow,be⟩:=hrel;have AT:=qC ad;have OW:=qC ow;have BB:=qC be;have ll:l.length<=1048575:=by have:=Xm ad;omega
  have ll2:l.length+1<=1048576:=by omega
  clear ad ow be;obtain⟨a0,a1⟩:=(HA.out.below BB).two;have PB:=qC (HP.out.below BB);obtain⟨o0,o1,o2,o3,o4,o5,o6,o7,o8,o9⟩:=PB.out.jE;by_cases hlt:j<k.on
  ·have i1:(j:Int)<(k.on:Int):=qQ;have i0:(0:Int)<=(j:Int):=qQ;obtain⟨b,off,ea,hbl,hc⟩:=HO.out qQ;have CC:Di wr b (off+j*10) (k.O j):=(hc j hlt).1.below hbl BB.out;have q0:wr.cell? ⟨b,off+j*10,none⟩=some (iT qH (k.O j).id):=CC.c0;have q1:wr.cell? ⟨b,off+j*10+1,none⟩=some (iT qH (k.O j).kind):=CC.c1;have q2:wr.cell? ⟨b,off+j*10+2,none⟩=some (iT qH (k.O j).up):=CC.c2;have q3:wr.cell? ⟨b,off+j*10+3,none⟩=some (iT qH (k.O j).b1):=CC.c3;have q4:wr.cell? ⟨b,off+j*10+4,none⟩=some (qV (k.O j).c1.a (k.O j).c1.n (k.O j).c1.k):=CC.c4;have q5:wr.cell? ⟨b,off+j*10+5,none⟩=some (.string (k.O j).data):=CC.c5;have q6:wr.cell? ⟨b,off+j*10+6,none⟩=some (qV (k.O j).jA.a (k.O j).jA.n (k.O j).jA.k):=CC.c6;have q7:wr.cell? ⟨b,off+j*10+7,none⟩=some (qV (k.O j).own.a (k.O j).own.n (k.O j).own.k):=CC.c7;have q8:wr.cell? ⟨b,off+j*10+8,none⟩=some (iT qH (k.O j).b2):=CC.c8;have q9:wr.cell? ⟨b,off+j*10+9,none⟩=some (qV (k.O j).c2.a (k.O j).c2.n (k.O j).c2.k):=CC.c9;rw[ea]at a1;have hbw:b<wr.heap.size:=Nat.lt_of_lt_of_le hbl BB.out.size;have HLT:=qC hlt;have EA:=qC ea;have HC:Hid (∀X,qN V V X->Di X b (off+j*10) (k.O j)):=qC (fun X hX=>(hc j HLT).1.below hbl hX);clear hc CC ea hlt;cases d with
   |true=>
    go_wp2_with fail
    go_quiet(fail)
    have bn:qN wr wr (wr.drewN nq):=below_drewN (Below.refl _ wr) nq;have OWn:=qC (OW.out.below bn);have BBn:=qC (BB.out.trans (bn.mono BB.out.size));clear a0 a1 q0 q1 q2 q3 q4 q5 q6 q7 q8 q9 o0 o1 o2 o3 o4 o5 o6 o7 o8 o9 PB;clear bn OW BB;generalize wr.drewN nq=W at *;obtain⟨a0,a1⟩:=(HA.out.below BBn).two;rw[EA.out]at a1;have PB:=qC (HP.out.below BBn);obtain⟨o0,o1,o2,o3,o4,o5,o6,o7,o8,o9⟩:=PB.out.jE;have CD:Di W b (off+j*10) (k.O j):=HC.out W BBn.out;have q0:W.cell? ⟨b,off+j*10,none⟩=some (iT qH (k.O j).id):=CD.c0;have q1:W.cell? ⟨b,off+j*10+1,none⟩=some (iT qH (k.O j).kind):=CD.c1;have q2:W.cell? ⟨b,off+j*10+2,none⟩=some (iT qH (k.O j).up):=CD.c2;have q3:W.cell? ⟨b,off+j*10+3,none⟩=some (iT qH (k.O j).b1):=CD.c3;have q4:W.cell? ⟨b,off+j*10+4,none⟩=some (qV (k.O j).c1.a (k.O j).c1.n (k.O j).c1.k):=CD.c4;have q5:W.cell? ⟨b,off+j*10+5,none⟩=some (.string (k.O j).data):=CD.c5;have q6:W.cell? ⟨b,off+j*10+6,none⟩=some (qV (k.O j).jA.a (k.O j).jA.n (k.O j).jA.k):=CD.c6;have q7:W.cell? ⟨b,off+j*10+7,none⟩=some (qV (k.O j).own.a (k.O j).own.n (k.O j).own.k):=CD.c7;have q8:W.cell? ⟨b,off+j*10+8,none⟩=some (iT qH (k.O j).b2):=CD.c8;have q9:W.cell? ⟨b,off+j*10+9,none⟩=some (qV (k.O j).c2.a (k.O j).c2.n (k.O j).c2.k):=CD.c9;clear CD;have sV:V.heap.size<=W.heap.size:=BBn.out.size;have n2:No (qG (k.O j) 59):=⟨⟩;have QO:=qC (OWn.out.below ((Below.refl _ W).alloc nr n2));have QL:Hid (Bl (W.alloc n2) (some ⟨W,0,none⟩) 1 (Ax [k.O j])):=qC (AW.one W (k.O j));have sQ:V.heap.size<=(W.alloc n2).heap.size:=sO;have bQ:=qC (BBn.out.alloc BBn.out.size n2);go_wp2_with(at_builtin;refine Da _ rfl _ _ rfl V (qV la l.length lc) l rfl QO _ _ (k.O j) rfl QL qQ sQ ?_;intro a7 c7 w7 o7 g7;have O7:=qC o7;have B7:Hid (qN V V w7):=qC (bQ.out.trans (below_grown g7 sQ (fun j e=>(qq.lt QO j e).1)));clear o7 g7)
    go_roundw;case rel=>exact⟨j+1,true,l++[k.O j],a7,c7,by have:=HLT.out;omega,by go_num,rfl,by simp,Wi AT,by rw[show(l++[k.O j]).length=l.length+1 from by simp];exact O7.out,B7⟩
    case measure=>have:=HLT.out;simp[intOf];omega
   |false=>
    by_cases hx:o.id<(k.O j).id
    ·have hx':decide (o.id<(k.O j).id)=true:=decide_eq_true hx;have HX:=qC hx;go_wp2_with fail
     go_quiet(fail)
     have bn:qN wr wr (wr.drewN nq):=below_drewN (Below.refl _ wr) nq;have OWn:=qC (OW.out.below bn);have BBn:=qC (BB.out.trans (bn.mono BB.out.size));clear a0 a1 q0 q1 q2 q3 q4 q5 q6 q7 q8 q9 o0 o1 o2 o3 o4 o5 o6 o7 o8 o9 PB;clear bn OW BB;generalize wr.drewN nq=W at *;obtain⟨a0,a1⟩:=(HA.out.below BBn).two;rw[EA.out]at a1;have PB:=qC (HP.out.below BBn);obtain⟨o0,o1,o2,o3,o4,o5,o6,o7,o8,o9⟩:=PB.out.jE;have CD:Di W b (off+j*10) (k.O j):=HC.out W BBn.out;have q0:W.cell? ⟨b,off+j*10,none⟩=some (iT qH (k.O j).id):=CD.c0;have q1:W.cell? ⟨b,off+j*10+1,none⟩=some (iT qH (k.O j).kind):=CD.c1;have q2:W.cell? ⟨b,off+j*10+2,none⟩=some (iT qH (k.O j).up):=CD.c2;have q3:W.cell? ⟨b,off+j*10+3,none⟩=some (iT qH (k.O j).b1):=CD.c3;have q4:W.cell? ⟨b,off+j*10+4,none⟩=some (qV (k.O j).c1.a (k.O j).c1.n (k.O j).c1.k):=CD.c4;have q5:W.cell? ⟨b,off+j*10+5,none⟩=some (.string (k.O j).data):=CD.c5;have q6:W.cell? ⟨b,off+j*10+6,none⟩=some (qV (k.O j).jA.a (k.O j).jA.n (k.O j).jA.k):=CD.c6;have q7:W.cell? ⟨b,off+j*10+7,none⟩=some (qV (k.O j).own.a (k.O j).own.n (k.O j).own.k):=CD.c7;have q8:W.cell? ⟨b,off+j*10+8,none⟩=some (iT qH (k.O j).b2):=CD.c8;have q9:W.cell? ⟨b,off+j*10+9,none⟩=some (qV (k.O j).c2.a (k.O j).c2.n (k.O j).c2.k):=CD.c9;clear CD;have sV:V.heap.size<=W.heap.size:=BBn.out.size;have mk1:True:=trivial;have n5:No (qG o 59):=⟨⟩;have PO:=qC (OWn.out.below ((Below.refl _ W).alloc nr n5));have PL:Hid (Bl (W.alloc n5) (some ⟨W,0,none⟩) 1 (Ax [o])):=qC (AW.one W o);have sP:V.heap.size<=(W.alloc n5).heap.size:=sO;have bP:=qC (BBn.out.alloc BBn.out.size n5);go_wp2_with(first
      |(at_builtin;have mq:=mk1;clear mk1 mq;refine Da _ rfl _ _ rfl V (qV la l.length lc) l rfl PO _ _ o rfl PL qQ sP ?_;intro a6 c6 w6 ow6 g6;have B6:Hid (qN V V w6):=qC (bP.out.trans (below_grown g6 sP (fun j e=>(qq.lt PO j e).1)));have O6:=qC (ow6.below ((Below.refl _ w6).alloc (Nat.le_refl _) (qG (k.O j) 59)));have QL:Hid (Bl (w6.alloc (qG (k.O j) 59)) (some ⟨w6,0,none⟩) 1 (Ax [k.O j])):=qC (AW.one w6 (k.O j));have s6:V.heap.size<=w6.heap.size:=B6.out.size;have sQ:V.heap.size<=(w6.alloc (qG (k.O j) 59)).heap.size:=sO;have bQ:=qC (B6.out.alloc B6.out.size (qG (k.O j) 59));clear ow6 g6 a0 a1 q0 q1 q2 q3 q4 q5 q6 q7 q8 q9 o0 o1 o2 o3 o4 o5 o6 o7 o8 o9;obtain⟨a0,a1⟩:=(HA.out.below B6).two;rw[EA.out]at a1;have CE:Di w6 b (off+j*10) (k.O j):=HC.out w6 B6.out;have q0:w6.cell? ⟨b,off+j*10,none⟩=some (iT qH (k.O j).id):=CE.c0;have q1:w6.cell? ⟨b,off+j*10+1,none⟩=some (iT qH (k.O j).kind):=CE.c1;have q2:w6.cell? ⟨b,off+j*10+2,none⟩=some (iT qH (k.O j).up):=CE.c2;have q3:w6.cell? ⟨b,off+j*10+3,none⟩=some (iT qH (k.O j).b1):=CE.c3;have q4:w6.cell? ⟨b,off+j*10+4,none⟩=some (qV (k.O j).c1.a (k.O j).c1.n (k.O j).c1.k):=CE.c4;have q5:w6.cell? ⟨b,off+j*10+5,none⟩=some (.string (k.O j).data):=CE.c5;have q6:w6.cell? ⟨b,off+j*10+6,none⟩=some (qV (k.O j).jA.a (k.O j).jA.n (k.O j).jA.k):=CE.c6;have q7:w6.cell? ⟨b,off+j*10+7,none⟩=some (qV (k.O j).own.a (k.O j).own.n (k.O j).own.k):=CE.c7;have q8:w6.cell? ⟨b,off+j*10+8,none⟩=some (iT qH (k.O j).b2):=CE.c8;have q9:w6.cell? ⟨b,off+j*10+9,none⟩=some (qV (k.O j).c2.a (k.O j).c2.n (k.O j).c2.k):=CE.c9;clear CE;have l6:(l++[o]).length<=1048576:=sO;have mk2:True:=trivial)
      |(at_builtin;have mq:=mk2;refine Da _ rfl _ _ rfl V (qV a6 (l.length+1) c6) (l++[o]) rfl O6 _ _ (k.O j) rfl QL l6 sQ ?_;intro a7 c7 w7 o7 g7;have O7:=qC o7;have B7:Hid (qN V V w7):=qC (bQ.out.trans (below_grown g7 sQ (fun j e=>(qq.lt O6 j e).1)));clear o7 g7))
     go_roundw;case rel=>exact⟨j+1,true,l++[o]++[k.O j],a7,c7,by have:=HLT.out;omega,by go_num,rfl,by simp,Yo AT HX,by rw[show(l++[o]++[k.O j]).length=(l++[o]).length+1 from by simp];exact O7.out,B7⟩
     case measure=>have:=HLT.out;simp[intOf];omega
    ·have hx':decide (o.id<(k.O j).id)=false:=decide_eq_false hx;have HX:=qC hx;go_wp2_with fail
     go_quiet(fail)
     have bn:qN wr wr (wr.drewN nq):=below_drewN (Below.refl _ wr) nq;have OWn:=qC (OW.out.below bn);have BBn:=qC (BB.out.trans (bn.mono BB.out.size));clear a0 a1 q0 q1 q2 q3 q4 q5 q6 q7 q8 q9 o0 o1 o2 o3 o4 o5 o6 o7 o8 o9 PB;clear bn OW BB;generalize wr.drewN nq=W at *;obtain⟨a0,a1⟩:=(HA.out.below BBn).two;rw[EA.out]at a1;have PB:=qC (HP.out.below BBn);obtain⟨o0,o1,o2,o3,o4,o5,o6,o7,o8,o9⟩:=PB.out.jE;have CD:Di W b (off+j*10) (k.O j):=HC.out W BBn.out;have q0:W.cell? ⟨b,off+j*10,none⟩=some (iT qH (k.O j).id):=CD.c0;have q1:W.cell? ⟨b,off+j*10+1,none⟩=some (iT qH (k.O j).kind):=CD.c1;have q2:W.cell? ⟨b,off+j*10+2,none⟩=some (iT qH (k.O j).up):=CD.c2;have q3:W.cell? ⟨b,off+j*10+3,none⟩=some (iT qH (k.O j).b1):=CD.c3;have q4:W.cell? ⟨b,off+j*10+4,none⟩=some (qV (k.O j).c1.a (k.O j).c1.n (k.O j).c1.k):=CD.c4;have q5:W.cell? ⟨b,off+j*10+5,none⟩=some (.string (k.O j).data):=CD.c5;have q6:W.cell? ⟨b,off+j*10+6,none⟩=some (qV (k.O j).jA.a (k.O j).jA.n (k.O j).jA.k):=CD.c6;have q7:W.cell? ⟨b,off+j*10+7,none⟩=some (qV (k.O j).own.a (k.O j).own.n (k.O j).own.k):=CD.c7;have q8:W.cell? ⟨b,off+j*10+8,none⟩=some (iT qH (k.O j).b2):=CD.c8;have q9:W.cell? ⟨b,off+j*10+9,none⟩=some (qV (k.O j).c2.a (k.O j).c2.n (k.O j).c2.k):=CD.c9;clear CD;have sV:V.heap.size<=W.heap.size:=BBn.out.size;have n3:No (qG (k.O j) 59):=⟨⟩;have QO:=qC (OWn.out.below ((Below.refl _ W).alloc nr n3));have QL:Hid (Bl (W.alloc n3) (some ⟨W,0,none⟩) 1 (Ax [k.O j])):=qC (AW.one W (k.O j));have sQ:V.heap.size<=(W.alloc n3).heap.size:=sO;have bQ:=qC (BBn.out.alloc BBn.out.size n3);go_wp2_with(at_builtin;refine Da _ rfl _ _ rfl V (qV la l.length lc) l rfl QO _ _ (k.O j) rfl QL qQ sQ ?_;intro a7 c7 w7 o7 g7;have O7:=qC o7;have B7:Hid (qN V V w7):=qC (bQ.out.trans (below_grown g7 sQ (fun j e=>(qq.lt QO j e).1)));clear o7 g7)
     go_roundw;case rel=>exact⟨j+1,false,l++[k.O j],a7,c7,by have:=HLT.out;omega,by go_num,rfl,by simp,Ws AT (Int.not_lt.2 HX),by rw[show(l++[k.O j]).length=l.length+1 from by simp];exact O7.out,B7⟩
     case measure=>have:=HLT.out;simp[intOf];omega
  ·obtain rfl:j=k.on:=by omega
   have i1:¬(k.on:Int)<(k.on:Int):=qQ;have rA:=(HA.out.below BB).jC;obtain⟨r0,r1⟩:=(HR.out.below BB).two;have rf:=(HR.out.below BB).jC;cases d with
   |true=>
    have EL:Hid ((Bs o (k.oL k.on)).length=l.length/\Bs o (k.oL k.on)=l):=qC ⟨by rw[AT.out.1],AT.out.1.symm⟩;go_wp2;have KB:=qC (HA.out.below BB);have RB:=qC ((HR.out.below BB).other (Q:=w.heap.size) (i:=1) qQ (qV la l.length lc));have FO:=qC (((AW.set OW KB (i:=1) qX (qV la l.length lc)).set RB (i:=0) qX (qV k.ta k.tn k.tk)).set (RB.out.jB (i:=0) (qV k.ta k.tn k.tk)) (i:=1) qX (qV la l.length lc));refine bodyPost_ret (Ih _ _ (w.heap.size+1+1) 4 _ _ Tryz.results96 ((RB.out.jB (i:=0) _).jB (i:=1) _) rfl) rfl ⟨la,lc,by rw[EL.out.1],by rw[EL.out.2];exact FO.out.base HB.out.size,?_⟩;iterate 3 refine Below.setCell ?_ qJ _
    exact HB.out.trans (BB.out.mono HB.out.size)
   |false=>
    have EL:Hid ((Bs o (k.oL k.on)).length=l.length+1/\Bs o (k.oL k.on)=l++[o]):=qC (by
     have h:Bs o (k.oL k.on)=l++[o]:=by
      have:=MA (b:=[]) AT.out.2;rw[List.append_nil]at this;rw[this,AT.out.1];rfl
     exact⟨by rw[h];simp,h⟩)
    have n6:No (qG o 59):=⟨⟩;have PO:=qC (OW.out.below ((Below.refl _ wr).alloc nr n6));have PL:Hid (Bl (wr.alloc n6) (some ⟨wr,0,none⟩) 1 (Ax [o])):=qC (AW.one wr o);have sV:V.heap.size<=wr.heap.size:=BB.out.size;have sP:V.heap.size<=(wr.alloc n6).heap.size:=sO;have bP:=qC (BB.out.alloc BB.out.size n6);go_wp2_with(at_builtin;refine Da _ rfl _ _ rfl V (qV la l.length lc) l rfl PO _ _ o rfl PL qQ sP ?_;intro a6 c6 w6 ow6 g6;have B6:Hid (qN V V w6):=qC (bP.out.trans (below_grown g6 sP (fun j e=>(qq.lt PO j e).1)));have O6:=qC ow6;clear ow6 g6 a0 a1 o0 o1 o2 o3 o4 o5 o6 o7 o8 o9 r0 r1 rf rA;obtain⟨a0,a1⟩:=(HA.out.below B6).two;have rA:=(HA.out.below B6).jC;obtain⟨r0,r1⟩:=(HR.out.below B6).two;have rf:=(HR.out.below B6).jC)
    have KB:=qC (HA.out.below B6);have n9:Nv (qV a6 (l.length+1) c6):=⟨⟩;have RB:=qC ((HR.out.below B6).other (Q:=w.heap.size) (i:=1) qQ n9);have FO:=qC (((AW.set O6 KB (i:=1) qX n9).set RB (i:=0) qX (qV k.ta k.tn k.tk)).set (RB.out.jB (i:=0) (qV k.ta k.tn k.tk)) (i:=1) qX n9);refine bodyPost_ret (Ih _ _ (w.heap.size+1+1) 4 _ _ Tryz.results96 ((RB.out.jB (i:=0) _).jB (i:=1) _) rfl) rfl ⟨a6,c6,by rw[EL.out.1],by rw[EL.out.1,EL.out.2];exact FO.out.base HB.out.size,?_⟩;iterate 3 refine Below.setCell ?_ qJ _
    exact HB.out.trans (B6.out.mono HB.out.size)
variable {w:World}{α:Type}{t B g i:Nat}{lt:List Ae}{lo:List Ab}{u:Value}
structure Aj where
 th:Int
 kind:Int
 id:Int
 «to»:Int
 cat:Int
 data:ByteArray
 b1:Int
 c1:As
 b2:Int
 c2:As
instance:Coe Aj (Array Value):=⟨fun s=>#[s.th,s.kind,s.id,s.to,s.cat,.string s.data,s.b1,.slice s.c1.a s.c1.n s.c1.k,s.b2,.slice s.c2.a s.c2.n s.c2.k]⟩
def Aj.cells(s:Aj):Array Value:=s
def Aj.at(w:World)(s:Aj):Prop:=s.c1.at w/\s.c2.at w/\s.data.size<=maxLen
def Aj.at.below{w':World}{s:Aj}(h:s.at w)(hb:Below w w w'):s.at w':=⟨h.1.below hb,h.2.1.below hb,h.2.2⟩
theorem Dl{f:α->List Value}{c:Nat}(hl:∀x,(f x).length=c):∀{l:List α}{t i:Nat}{x:α}{u:Value} (ht:t<l.length),i<c->f x=(f l[t]).set i u->((l.map f).flatten).set (t*c+i) u=((l.set t x).map f).flatten
 |[],t,_,_,_,ht,_,_=>absurd ht (Nat.not_lt_zero t)
 |y::r,0,i,x,u,_,hi,h=>by
  show(f y++(r.map f).flatten).set (0*c+i) u=f x++(r.map f).flatten;rw[Nat.zero_mul,Nat.zero_add,List.set_append_left _ _ (by rw[hl];exact hi)];have h':f x=(f y).set i u:=h;rw[h']
 |y::r,t+1,i,x,u,ht,hi,h=>by
  show(f y++(r.map f).flatten).set ((t+1)*c+i) u=f y++((r.set t x).map f).flatten;have e:(t+1)*c+i=(f y).length+(t*c+i):=by rw[hl,Nat.succ_mul];omega
  rw[e,List.set_append_right _ _ qQ,Nat.add_sub_cancel_left];rw[Dl hl (l:=r) (t:=t) (x:=x) (by simpa using ht) hi h]
def Ae.jK(x:Ae):x.cs.length=7:=rfl
def Ab.jK(x:Ab):x.cs.length=10:=rfl
def G8{l:List α}{x y:α}(h:y∈l.set t x):y=x∨y∈l:=by
 rcases List.mem_or_eq_of_mem_set h with h|h
 ·exact .inr h
 ·exact .inl h
def Bz.setT{ca:Nat}{vo:Value}(h:Bz w B (.slice g lt.length ca) vo lt lo){x:Ae}(ht:t<lt.length)(hi:i<7)(hcs:x.cs=(lt[t]).cs.set i u)(hx:x.new B w)(hc:x.own.n<=x.own.k/\x.own.k<=maxLen):
 Bz (w.setCell ⟨g,t*7+i,none⟩ u) B (.slice g (lt.set t x).length ca) vo (lt.set t x) lo/\(∃cur,Ag w g (.cells cur 53))/\B<=g:=by
 have hg:∃cur,Ag w g (.cells cur 53):=by
  rcases h.t.2 with⟨hv,_⟩|⟨g',cap,cur,hv,_,hgg,_⟩
  ·cases hv
  ·cases hv;exact⟨cur,hgg⟩
 have hBg:B<=g:=(qq.lt h.t g rfl).1;obtain⟨cur,hcur⟩:=hg;have kl:=Aq (i:=t*7+i) hcur qX u;have el:(lt.set t x).length=lt.length:=by simp
 have ho:=(qq.stored h.t (t*7+i) u).1;refine⟨⟨?_,h.o.set hcur qX u,fun y hy=>?_,fun y hy=>(h.on y hy).keeps kl,fun y hy=>?_,h.oc⟩,⟨cur,hcur⟩,hBg⟩
 ·unfold Du;rw[el];have e:=Dl (f:=Ae.cs) Ae.jK (l:=lt) (t:=t) (x:=x) (u:=u) ht hi hcs;unfold Cn;rw[<-e];exact ho
 ·rcases G8 hy with rfl|hy
  ·exact hx.keeps kl
  ·exact(h.tn y hy).keeps kl
 ·rcases G8 hy with rfl|hy
  ·exact hc
  ·exact h.tc y hy
def Bz.setO{co:Nat}{vt:Value}(h:Bz w B vt (.slice g lo.length co) lt lo){x:Ab}(ht:t<lo.length)(hi:i<10)(hcs:x.cs=(lo[t]).cs.set i u)(hx:x.new B w)(hc:x.jA.n<=x.jA.k/\x.jA.k<=maxLen):
 Bz (w.setCell ⟨g,t*10+i,none⟩ u) B vt (.slice g (lo.set t x).length co) lt (lo.set t x)/\(∃cur,Ag w g (.cells cur 59))/\B<=g:=by
 have hg:∃cur,Ag w g (.cells cur 59):=by
  rcases h.o.2 with⟨hv,_⟩|⟨g',cap,cur,hv,_,hgg,_⟩
  ·cases hv
  ·cases hv;exact⟨cur,hgg⟩
 have hBg:B<=g:=(qq.lt h.o g rfl).1;obtain⟨cur,hcur⟩:=hg;have kl:=Aq (i:=t*10+i) hcur qX u;have el:(lo.set t x).length=lo.length:=by simp
 have ho:=(qq.stored h.o (t*10+i) u).1;refine⟨⟨h.t.set hcur qX u,?_,fun y hy=>(h.tn y hy).keeps kl,fun y hy=>?_,h.tc,fun y hy=>?_⟩,⟨cur,hcur⟩,hBg⟩
 ·unfold AW;rw[el];have e:=Dl (f:=Ab.cs) Ab.jK (l:=lo) (t:=t) (x:=x) (u:=u) ht hi hcs;unfold Ax;rw[<-e];exact ho
 ·rcases G8 hy with rfl|hy
  ·exact hx.keeps kl
  ·exact(h.on y hy).keeps kl
 ·rcases G8 hy with rfl|hy
  ·exact hc
  ·exact h.oc y hy
open Go.BigFrame Go.Shelf
open _root_.List renaming perm_append_comm→jz,append_assoc→kM,map_set→kF,getElem→jW
def IN(s:Aj)(g nt ca q no co t:Nat)(m:Value):Array Value:=#[s.th,s.kind,s.id,s.to,s.cat,.string s.data,s.b1,s.c1,s.b2,s.c2,qV g nt ca,qV q no co,.pointer (some ⟨g,t*7,none⟩),m]
structure Fg(wr:World)(B P:Nat)(s:Aj)(g ca q co:Nat)(lt:List Ae)(lo:List Ab)(t:Nat)(m:Value):Prop where
 st:Bz wr B (qV g lt.length ca) (qV q lo.length co) lt lo
 ap:Apart lt lo
 wk:Ag wr P (.cells (IN s g lt.length ca q lo.length co t m) 175)
 lp:B<=P
def Ag.jZ{W:World}{P ty:Nat}{s:Aj}{g nt ca q no co t:Nat}{m:Value}(h:Ag W P (.cells (IN s g nt ca q no co t m) ty)):
 (W.cell? ⟨P,0,none⟩=some (.int .i64 s.th)/\W.cell? ⟨P,1,none⟩=some (.int .i64 s.kind)/\W.cell? ⟨P,2,none⟩=some (.int .i64 s.id)/\W.cell? ⟨P,3,none⟩=some (.int .i64 s.to)/\W.cell? ⟨P,4,none⟩=some (.int .i64 s.cat)/\W.cell? ⟨P,5,none⟩=some (.string s.data)/\W.cell? ⟨P,6,none⟩=some (.int .i64 s.b1)/\W.cell? ⟨P,7,none⟩=some (qV s.c1.a s.c1.n s.c1.k)/\W.cell? ⟨P,8,none⟩=some (.int .i64 s.b2)/\W.cell? ⟨P,9,none⟩=some (qV s.c2.a s.c2.n s.c2.k))/\
 W.cell? ⟨P,10,none⟩=some (qV g nt ca)/\W.cell? ⟨P,11,none⟩=some (qV q no co)/\W.cell? ⟨P,12,none⟩=some (.pointer (some ⟨g,t*7,none⟩))/\W.cell? ⟨P,13,none⟩=some m:=by
 unfold Ag IN at h;simp[World.cell?,h]
section
variable {wr w':World}{B P:Nat}{s:Aj}{g ca q co:Nat}{lt:List Ae}{lo:List Ab}{t:Nat}{m:Value}
def Fg.below(h:Fg wr B P s g ca q co lt lo t m)(hb:Below wr wr w'):Fg w' B P s g ca q co lt lo t m:=
 ⟨h.st.below hb,h.ap,h.wk.below hb,h.lp⟩
end
theorem Pm:∀{L:List (List Nat)}{t:Nat}{l:List Nat} (l':List Nat),L[t]? =some l->∃R:List Nat,L.flatten.Perm (l++R)/\(L.set t l').flatten.Perm (l'++R)
 |[],t,l,_,h=>by simp at h
 |x::L,0,l,l',h=>by
  simp only[jW?_cons_zero,Option.some.injEq]at h;subst h;exact⟨L.flatten,by simp,by simp⟩
 |x::L,t+1,l,l',h=>by
  simp only[jW?_cons_succ]at h;obtain⟨R,h1,h2⟩:=Pm l' h;refine⟨x++R,?_,?_⟩
  ·simp only[List.flatten_cons];refine(h1.append_left x).trans ?_;rw[<-kM,<-kM];exact jz.append_right R
  ·simp only[List.set_cons_succ,List.flatten_cons];refine(h2.append_left x).trans ?_;rw[<-kM,<-kM];exact jz.append_right R
def Vr{l l' R:List Nat}{M:Nat}(h:(l++R).Nodup)(h1:l'.Nodup)(h2:∀x∈l',x∈l∨M<=x)(h3:∀x∈l++R,x<M):(l'++R).Nodup:=by
 rw[List.nodup_append]at h ⊢;refine⟨h1,h.2.1,fun x hx y hy e=>?_⟩;subst e;rcases h2 x hx with a|a
 ·exact h.2.2 x a x hy rfl
 ·have:=h3 x (List.mem_append.2 (.inr hy));omega
def IE{L:List (List Nat)}{S:List Nat}{t M:Nat}{l:List Nat}(l':List Nat)(hl:L[t]? =some l)(h:(L.flatten++S).Nodup)(h1:l'.Nodup)(h2:∀x∈l',x∈l∨M<=x)(h3:∀x∈L.flatten++S,x<M):((L.set t l').flatten++S).Nodup:=by
 obtain⟨R,p1,p2⟩:=Pm l' hl;have q1:(L.flatten++S).Perm (l++(R++S)):=by rw[<-kM];exact p1.append_right S
 have q2:((L.set t l').flatten++S).Perm (l'++(R++S)):=by rw[<-kM];exact p2.append_right S
 exact q2.nodup_iff.2 (Vr (q1.nodup_iff.1 h) h1 h2 (fun x hx=>h3 x (q1.mem_iff.2 hx)))
def Dr{L:List (List Nat)}{S:List Nat}{t:Nat}{l:List Nat}(hl:L[t]? =some l)(h:(L.flatten++S).Nodup):l.Nodup:=by
 obtain⟨R,p1,_⟩:=Pm [] hl;exact(List.nodup_append.1 (p1.nodup_iff.1 (List.nodup_append.1 h).1)).1
def Apart.setT{w:World}{B:Nat}{vt vo:Value}{lt:List Ae}{lo:List Ab}(h:Apart lt lo)(hk:Bz w B vt vo lt lo){t:Nat}(ht:t<lt.length){x:Ae}(hn:x.cb.Nodup)(hc:∀b∈x.cb,b∈lt[t].cb∨w.heap.size<=b)(hd:x.own.bs.Nodup)(hi:∀b∈x.own.bs,b∈lt[t].own.bs∨w.heap.size<=b):Apart (lt.set t x) lo:=by
 obtain⟨k1,k2,_⟩:=hk.low3;refine⟨?_,?_,h.s⟩
 ·rw[kF];exact IE x.cb (l:=lt[t].cb) (by simp[ht]) h.c hn hc k1
 ·rw[kF];exact IE x.own.bs (l:=lt[t].own.bs) (by simp[ht]) h.i hd hi k2
def Apart.setO{w:World}{B:Nat}{vt vo:Value}{lt:List Ae}{lo:List Ab}(h:Apart lt lo)(hk:Bz w B vt vo lt lo){t:Nat}(ht:t<lo.length){x:Ab}(hn:x.cb.Nodup)(hc:∀b∈x.cb,b∈lo[t].cb∨w.heap.size<=b)(hd:x.own.bs.Nodup)(hi:∀b∈x.own.bs,b∈lo[t].own.bs∨w.heap.size<=b)(he:x.jA.bs.Nodup)(hs:∀b∈x.jA.bs,b∈lo[t].jA.bs∨w.heap.size<=b):Apart lt (lo.set t x):=by
 obtain⟨k1,k2,k3⟩:=hk.low3;refine⟨?_,?_,?_⟩
 ·rw[kF];refine jz.nodup_iff.2 (IE x.cb (l:=lo[t].cb) (by simp[ht]) (jz.nodup_iff.2 h.c) hn hc (fun b hb=>k1 b (jz.mem_iff.2 hb)))
 ·rw[kF];refine jz.nodup_iff.2 (IE x.own.bs (l:=lo[t].own.bs) (by simp[ht]) (jz.nodup_iff.2 h.i) hd hi (fun b hb=>k2 b (jz.mem_iff.2 hb)))
 ·rw[kF];have:=IE x.jA.bs (S:=[]) (L:=lo.map fun x=>x.jA.bs) (t:=t) (l:=lo[t].jA.bs) (by simp[ht]) (by rw[List.append_nil];exact h.s) he hs (by rw[List.append_nil];exact k3);rw[List.append_nil]at this;exact this
variable {n k:Nat}{x base:Int}{f g:Nat->Int}
def Ry{m:Int->Option Int}{base c:Int}{D:DataW Unit}(h1:Maps.has D (iT qH x)=(m x).isSome)(h2:∀v,m x=some v->D.atKey (iT qH x) (.lit (iT qH 0))= .lit (iT qH v))(hat:D.atKey (iT qH x) (.lit (iT qH 0))= .lit (iT qH c)):
 (Maps.has D (iT qH x)=true->(m x).getD base=c)/\(Maps.has D (iT qH x)=false->(m x).getD base=base):=by
 cases hm:m x with
 |none=>simp[h1,hm]
 |some v=>
  have:=(h2 v hm).symm.trans hat;simp at this;simp[h1,hm,this]
def dO(base:Int)(c n:Nat)(m:Int->Option Int)(x:Int)(w:World)(hm:Bu w c n m)(hx:(Lit.int .i64 x).wf=true):
 Calls prog 207 #[.agg #[iT qH base,.map (some c)],iT qH x] w fun e w'=>e= .returned (iT qH ((m x).getD base))/\Below w w w':=by
 have hkey:keyOf prog 2 (iT qH x)=some (iT qH x):=keyOf_int_mk underlying2 hx;obtain⟨D,hown,hD,hall⟩:=hm.alloc (.cells #[iT qH base,.map (some c)] 277);obtain⟨h1,h2⟩:=hall x;clear hall;go_enter func207,ntmps207
 have HH:Hid (∀(c:Int),D.atKey (iT qH x) (.lit (iT qH 0))= .lit (iT qH c)->(Maps.has D (iT qH x)=true->(m x).getD base=c)/\(Maps.has D (iT qH x)=false->(m x).getD base=base)):=fun c hat=>Ry h1 h2 hat;clear h1 h2;go_wp2_with(at_lookup;refine wpList_lookup_own_ok_int _ rfl _ _ 108 rfl 2 2 .i64 Ip underlying108 underlying2 (cW _) c n _ rfl hown _ _ rfl hkey ?_;intro cc hat hwc)
 ·go_ret;have t:Maps.has D (iT qH x)=true:=by assumption
  exact⟨Fw ((HH _ hat).1 t).symm,Bg _ _⟩
 ·go_ret;have t:Maps.has D (iT qH x)=false:=by assumption
  exact⟨Fw ((HH _ hat).2 t).symm,Bg _ _⟩
def Fo(base:Int)(n:Nat)(f g:Nat->Int)(x:Int):Int:=(look f g n x).getD base
def XW(h:∀i,i<k->f i≠x):look f g k x=none:=by
 induction k with
 |zero=>rfl
 |succ k ih=>simp only[look];rw[if_neg (h k qQ)];exact ih fun i hi=>h i qQ
def YF(hr:∀j,j<n->∀i,i<j->f i<f j)(hk:k<n):look f g n (f k)=some (g k):=by
 induction n with
 |zero=>omega
 |succ n ih=>
  simp only[look];by_cases e:k=n
  ·subst e;rw[if_pos rfl]
  ·have:=hr n qQ k qQ;rw[if_neg qQ];exact ih (fun j hj i hi=>hr j qQ i hi) qQ
def MQ(base:Int)(a:Option Addr)(n cap:Nat)(f g:Nat->Int)(x:Int)(w:World)(hn:n<=maxLen)(hc:Bd w a n f g)(hr:∀j,j<n->∀i,i<j->f i<f j):
 Calls prog 127 #[.agg #[iT qH base,.slice a n cap],iT qH x] w fun e w'=>e= .returned (iT qH (Fo base n f g x))/\Below w w w':=by
 unfold maxLen at hn;have hb0:=Bg w (.cells #[iT qH base,.slice a n cap] 42);have hc1:=hc.below hb0;have HR:Hid (∀j,j<n->∀i,i<j->f i<f j):=hr;clear hc hr;go_enter func127,ntmps127
 go_wp2;go_loop [5] (fun i=>∃k:Nat,k<=n/\i= iT qH k/\(∀j,j<k->f j≠x)) (fun i=>n-(intOf i).toNat)
 case atStart=>exact⟨0,Nat.zero_le _,rfl,fun j hj=>by omega⟩
 case round=>
  obtain⟨k,hk,rfl,hall⟩:=hrel;have HA:Hid (∀j,j<k->f j≠x):=hall;clear hall;by_cases hlt':k<n
  ·obtain⟨b,off,rfl,hlt,hcc⟩:=hc1 qQ;obtain⟨g1,g2⟩:=hcc k hlt';clear hcc hc1;by_cases t:(f k==x)=true
   ·go_wp2;go_ret;have t':f k=x:=(by simpa using t);exact⟨Fw (by rw[<-t',Fo,YF HR.out hlt'];rfl),hb0⟩
   ·have t':(f k==x)=false:=(by simpa using t);clear t;go_wp2;go_round;case rel=>
     refine⟨k+1,by omega,by go_num,fun j hj=>?_⟩;by_cases e:j=k
     ·subst e;simpa using t'
     ·exact HA.out j qQ
    case measure=>simp[intOf];omega
  ·clear hc1;go_wp2;go_ret;have e:k=n:=qQ;subst e;exact⟨Fw (by rw[Fo,XW HA.out];rfl),hb0⟩
def UD(h:Bb base n f g=true):∀i,i<n->(Lit.int .i64 (f i)).wf=true/\(Lit.int .i64 (g i)).wf=true:=fun i hi=>by
 obtain⟨h1,h2,_⟩:=Xu.1 ((Kj h).2.2 i hi);exact⟨Iz qQ qQ,Iz qQ qQ⟩
open _root_.Nat renaming lt_of_lt_of_le→qv,zero_le→qy,le_trans→qj
open _root_.List renaming range→qx,mem_range→jM
variable {n k na no nb:Nat}{h fa ga ho fb gb:Nat->Int}{x ba bb:Int}
def hasB(n:Nat)(h:Nat->Int)(x:Int):Bool:=(qx n).any (fun i=>h i==x)
def Py(hk:k<n)(e:h k=x):hasB n h x=true:=by
 unfold hasB;rw[List.any_eq_true];exact⟨k,jM.2 hk,by simpa using e⟩
def Sz(e:∀i,i<n->h i≠x):hasB n h x=false:=by
 unfold hasB;rw[List.any_eq_false];intro i hi;simpa using e i (jM.1 hi)
def J7(a:Option Addr)(n cap:Nat)(h:Nat->Int)(x:Int)(w:World)(hn:n<=maxLen)(hc:Bp w a n h):
 Calls prog 94 #[qV a n cap,.int .i64 x] w fun e w'=>e= .returned (.bool (hasB n h x))/\w'=w:=by
 unfold maxLen at hn;go_enter func94,ntmps94
 go_wp2;go_loop [5] (fun i=>∃k:Nat,k<=n/\i= .int .i64 k/\(∀j,j<k->h j≠x)) (fun i=>n-(intOf i).toNat)
 case atStart=>exact⟨0,qy _,rfl,fun j hj=>by omega⟩
 case round=>
  obtain⟨k,hk,rfl,hall⟩:=hrel;have HA:Hid (∀j,j<k->h j≠x):=hall;clear hall;by_cases hlt':k<n
  ·obtain⟨b,off,rfl,hlt,hcc⟩:=hc qQ;have g1:=hcc k hlt';clear hcc hc;by_cases t:(h k==x)=true
   ·go_wp2;go_ret;exact⟨Ah (Py hlt' (by simpa using t)).symm,rfl⟩
   ·have t':(h k==x)=false:=(by simpa using t);clear t;go_wp2;go_round;case rel=>
     refine⟨k+1,by omega,by go_num,fun j hj=>?_⟩;by_cases e:j=k
     ·subst e;simpa using t'
     ·exact HA.out j qQ
    case measure=>simp[intOf];omega
  ·clear hc;go_wp2;go_ret;have e:k=n:=qQ;subst e;exact⟨Ah (Sz HA).symm,rfl⟩
def JE(ba:Int)(na:Nat)(fa ga:Nat->Int)(no:Nat)(ho:Nat->Int)(bb:Int)(nb:Nat)(fb gb:Nat->Int)(x:Int):Bool:=
 hasB no ho x|| !decide (Fo bb nb fb gb x<Fo ba na fa ga x)
def CX(ba:Int)(na:Nat)(fa ga:Nat->Int)(no:Nat)(ho:Nat->Int)(bb:Int)(nb:Nat)(fb gb:Nat->Int):Bool:=
 decide (ba<=bb)&&(qx (na+nb)).all (fun i=>JE ba na fa ga no ho bb nb fb gb (glue na fa fb i))
def Nn(h:bb<ba):CX ba na fa ga no ho bb nb fb gb=false:=by
 have:decide (ba<=bb)=false:=by simp;omega
 simp[CX,this]
def Mj(hk:k<na+nb)(h:JE ba na fa ga no ho bb nb fb gb (glue na fa fb k)=false):CX ba na fa ga no ho bb nb fb gb=false:=by
 have:(qx (na+nb)).all (fun i=>JE ba na fa ga no ho bb nb fb gb (glue na fa fb i))=false:=by
  rw[List.all_eq_false];exact⟨k,jM.2 hk,by simp[h]⟩
 simp[CX,this]
def QT(h0:ba<=bb)(h:∀i,i<na+nb->JE ba na fa ga no ho bb nb fb gb (glue na fa fb i)=true):CX ba na fa ga no ho bb nb fb gb=true:=by
 have:(qx (na+nb)).all (fun i=>JE ba na fa ga no ho bb nb fb gb (glue na fa fb i))=true:=by
  rw[List.all_eq_true];intro i hi;exact h i (jM.1 hi)
 simp[CX,this,h0]
def GQ(ba:Int)(aa:Option Addr)(na ka:Nat)(fa ga:Nat->Int)(ao:Option Addr)(no ko:Nat)(ho:Nat->Int)(bb:Int)(ab:Option Addr)(nb kb:Nat)(fb gb:Nat->Int)(w:World)
 (hna:na<=1048576)(hnb:nb<=1048576)(hno:no<=maxLen)(hca:Bd w aa na fa ga)(hcb:Bd w ab nb fb gb)(hco:Bp w ao no ho)
 (hra:∀j,j<na->∀i,i<j->fa i<fa j)(hrb:∀j,j<nb->∀i,i<j->fb i<fb j):
 Calls prog 93 #[.agg #[.int .i64 ba,qV aa na ka],qV ao no ko,.agg #[.int .i64 bb,qV ab nb kb]] w fun e w'=>e= .returned (.bool (CX ba na fa ga no ho bb nb fb gb))/\qN w w w':=by
 have n3:Na #[.int .i64 ba,qV aa na ka]:=⟨⟩;have n4:Na #[.int .i64 bb,qV ab nb kb]:=⟨⟩;have hb0:=(Bg w (qG n3 42)).alloc sI (qG n4 42);by_cases h0:bb<ba
 ·go_enter func93,ntmps93
  go_wp2;go_ret;exact⟨Ah (Nn h0).symm,hb0⟩
 ·go_enter func93,ntmps93
  go_wp2_with fail
  have n1:Nw ((w.alloc (qG n3 42)).alloc (qG n4 42)):=⟨⟩;have own0:AO (((n1:World).alloc (qG #[] 96)).drew) (w.heap.size+1+1) (qV (some ⟨w.heap.size+1+1,0,none⟩) 0 0) 0 (fun _=>0) (fun _=>0):=by
   have:=World.ownsRow_made (base:=w.heap.size+1+1) (e:=96) (size:=2) n1 #[] 0 sI (qy _) rfl;simp at this;exact this
  have B0:=(hb0.alloc sO (qG #[] 96)).drew;have C0a:=hca.below B0;obtain⟨D0,hD0⟩:∃D0,D0=((n1:World).alloc (qG #[] 96)).drew:=⟨_,rfl⟩;have d1:D0.cell? ⟨w,0,none⟩=some (.int .i64 ba):=by rw[hD0];go_simp
  have d2:D0.cell? ⟨w,1,none⟩=some (qV aa na ka):=by rw[hD0];go_simp
  have d3:D0.cell? ⟨w.heap.size+1,0,none⟩=some (.int .i64 bb):=by rw[hD0];go_simp
  have d4:D0.cell? ⟨w.heap.size+1,1,none⟩=some (qV ab nb kb):=by rw[hD0];go_simp
  have dz:w.heap.size+1+1<=D0.heap.size:=by rw[hD0];simp
  have n2:Nw (((w.alloc (qG n3 42)).alloc (qG n4 42)).alloc (qG #[] 96)):=⟨⟩;have HD:Hid (D0=(n2:World).drew):=hD0;have GG:∀w1,((n2:World).drew).grownBy w1 (Value.slice (some ⟨w.heap.size+1+1,0,none⟩) 0 0).ownBlock->qN (w.heap.size+1+1) D0 w1:=fun w1 hg=>by
   rw[<-HD.out]at hg;exact(Below.refl _ _).grown hg dz (fun k e=>by cases e;exact Nat.le_refl _)
  have B0':qN w w D0:=by rw[hD0];exact B0
  clear hD0;go_region_held3(fun w'=>w'.cell? ⟨w,0,none⟩=some (.int .i64 ba)/\w'.cell? ⟨w,1,none⟩=some (qV aa na ka)/\w'.cell? ⟨w.heap.size+1,0,none⟩=some (.int .i64 bb)/\w'.cell? ⟨w.heap.size+1,1,none⟩=some (qV ab nb kb)) (go_keep)
   (first
     |(refine If _ qK _ _ qK (w.heap.size+1+1) _ (fun _=>0) (fun _=>0) qK own0 aa na ka fa ga qK C0a qQ sI ?_;intro a1 c1 w1 hown1 hgrow1 hat1;have G1:=GG w1 hgrow1;have p1:=(G1.cell (p:=⟨w,0,none⟩) qJ).trans d1;have p2:=(G1.cell (p:=⟨w,1,none⟩) qJ).trans d2;have p3:=(G1.cell (p:=⟨w.heap.size+1,0,none⟩) qJ).trans d3;have p4:=(G1.cell (p:=⟨w.heap.size+1,1,none⟩) qJ).trans d4;have s1:w.heap.size+1+1<=w1.heap.size:=qj dz G1.size;have B1:qN w w w1:=B0'.trans (G1.mono qQ);have C1b:=hcb.below B1)
     |(refine Fu _ qK _ _ qK (w.heap.size+1+1) _ na fa ga qK hown1 ab nb kb fb gb qK C1b qQ s1 ?_;intro a2 c2 w2 hown2 hgrow2 hat2;have G2:qN (w.heap.size+1+1) w1 w2:=(Below.refl _ _).grown hgrow2 s1 (fun k e=>(World.ownsRow.lt hown1 k e).1);have q1:=(G2.cell (p:=⟨w,0,none⟩) qJ).trans p1;have q2:=(G2.cell (p:=⟨w,1,none⟩) qJ).trans p2;have q3:=(G2.cell (p:=⟨w.heap.size+1,0,none⟩) qJ).trans p3;have q4:=(G2.cell (p:=⟨w.heap.size+1,1,none⟩) qJ).trans p4;have s2:w.heap.size+1+1<=w2.heap.size:=qj s1 G2.size;have B2:qN w w w2:=B1.trans (G2.mono qQ)))
  have C2:=AO.cats hown2;have C2a:=hca.below B2;have C2b:=hcb.below B2;have C2o:=hco.below B2;clear p1 p2 p3 p4 d1 d2 d3 d4 hca hcb hco B0 C0a own0 hb0 hown1 hgrow1 hat1 hgrow2 hat2 hown2 G1 G2 GG HD s1 C1b B1 dz B0';go_wp2;go_loopw [8] (fun i wr=>∃k:Nat,k<=na+nb/\i= .int .i64 k/\(∀j,j<k->JE ba na fa ga no ho bb nb fb gb (glue na fa fb j)=true)/\qN w2 w2 wr) (fun i _=>na+nb-(intOf i).toNat)
  case atStart=>exact⟨0,qy _,rfl,fun j hj=>by omega,Below.refl _ _⟩
  case round=>
   obtain⟨k,hk,rfl,hall,hB⟩:=hrel;have HA:Hid (∀j,j<k->JE ba na fa ga no ho bb nb fb gb (glue na fa fb j)=true):=hall;clear hall;have Bw:qN w w wr:=B2.trans (hB.mono qQ);by_cases hlt':k<na+nb
   ·obtain⟨b,off,rfl,hlt,hcc⟩:=C2 qQ;have r5:=(hB.cell (p:=⟨b,off+k*2,none⟩) hlt).trans (hcc k hlt').1;have r1:=(hB.cell (p:=⟨w,0,none⟩) qJ).trans q1;have r2:=(hB.cell (p:=⟨w,1,none⟩) qJ).trans q2;have r3:=(hB.cell (p:=⟨w.heap.size+1,0,none⟩) qJ).trans q3;have r4:=(hB.cell (p:=⟨w.heap.size+1,1,none⟩) qJ).trans q4;have i0:(0:Int)<=(k:Int):=qQ;have i1:(k:Int)<((na+nb:Nat):Int):=qQ;have i1':(k:Int)<(na:Int)+(nb:Int):=qQ;have y1:w.heap.size<wr.heap.size:=(by have:=hB.size;omega);have y2:w.heap.size+1<wr.heap.size:=(by have:=hB.size;omega);have y3:b<wr.heap.size:=(by have:=hB.size;omega);have Ca:Bd wr.drew aa na fa ga:=(C2a.below hB).below (Below.refl _ _).drew;have Cb:Bd wr.drew ab nb fb gb:=(C2b.below hB).below (Below.refl _ _).drew;have Co:Bp wr ao no ho:=C2o.below hB;obtain⟨x,hx⟩:∃x,x=glue na fa fb k:=⟨_,rfl⟩;rw[<-hx]at r5;have HX:Hid (x=glue na fa fb k):=hx;clear hx hcc C2 C2a C2b C2o q1 q2 q3 q4;by_cases t:hasB no ho x=true
    ·clear Ca Cb;have t':JE ba na fa ga no ho bb nb fb gb x=true:=(by simp[JE,t]);have HT:Hid (JE ba na fa ga no ho bb nb fb gb x=true):=t';clear t';go_wp2_with fail
     have CoN:∀m,Bp (wr.drewN m) ao no ho:=fun m=>Co.below (below_drewN (Below.refl _ _) m);go_quiet((go_at_call 94;exact Calls.quiet_of_same (J7 _ _ _ ho _ _ hno (CoN _))))
     clear CoN;go_wp2;go_roundw;case rel=>
      refine⟨k+1,by omega,by go_num,fun j hj=>?_,below_drewN hB _⟩;by_cases e:j=k
      ·subst e;rw[<-HX.out];exact HT.out
      ·exact HA.out j qQ
     case measure=>simp[intOf];omega
    ·have t0:hasB no ho x=false:=(by simpa using t);clear t;have Co':Bp wr.drew ao no ho:=Co.below (Below.refl _ _).drew;have HRA:Hid (∀j,j<na->∀i,i<j->fa i<fa j):=hra;have HRB:Hid (∀j,j<nb->∀i,i<j->fb i<fb j):=hrb;have ma:na<=maxLen:=(by unfold maxLen;omega);have mb:nb<=maxLen:=(by unfold maxLen;omega);clear Co hra hrb;go_wp2_with fail
     go_region_held3(fun w'=>w'.cell? ⟨w,0,none⟩=some (.int .i64 ba)/\w'.cell? ⟨w,1,none⟩=some (qV aa na ka)/\w'.cell? ⟨w.heap.size+1,0,none⟩=some (.int .i64 bb)/\w'.cell? ⟨w.heap.size+1,1,none⟩=some (qV ab nb kb)/\w'.cell? ⟨b,off+k*2,none⟩=some (.int .i64 x)) (go_keep)
      (first
        |(go_at_call 94;refine(J7 _ _ _ ho _ _ hno Co').mono ?_;rintro e w' ⟨rfl,rfl⟩)
        |(go_at_call 127;refine(MQ bb ab nb kb fb gb x _ mb (Cb.below hb1) HRB).mono ?_;rintro e v2 ⟨rfl,hb2⟩;have u1:=(hb2.cell (p:=⟨w,0,none⟩) (qv y1 hb1.size)).trans p1;have u2:=(hb2.cell (p:=⟨w,1,none⟩) (qv y1 hb1.size)).trans p2;have u3:=(hb2.cell (p:=⟨w.heap.size+1,0,none⟩) (qv y2 hb1.size)).trans p3;have u4:=(hb2.cell (p:=⟨w.heap.size+1,1,none⟩) (qv y2 hb1.size)).trans p4;have u5:=(hb2.cell (p:=⟨b,off+k*2,none⟩) (qv y3 hb1.size)).trans p5)
        |(go_at_call 127;refine(MQ ba aa na ka fa ga x _ ma Ca HRA).mono ?_;rintro e v1 ⟨rfl,hb1⟩;have p1:=(hb1.cell (p:=⟨w,0,none⟩) y1).trans r1;have p2:=(hb1.cell (p:=⟨w,1,none⟩) y1).trans r2;have p3:=(hb1.cell (p:=⟨w.heap.size+1,0,none⟩) y2).trans r3;have p4:=(hb1.cell (p:=⟨w.heap.size+1,1,none⟩) y2).trans r4;have p5:=(hb1.cell (p:=⟨b,off+k*2,none⟩) y3).trans r5))
     have hBv:qN w2 w2 v2:=(hB.drew.trans (hb1.mono hB.size)).trans (hb2.mono (qj hB.size hb1.size));clear r1 r2 r3 r4 r5 p1 p2 p3 p4 p5 u1 u2 u3 u4 u5 Ca Cb Co' hb1 hb2 HRA HRB;by_cases t1:Fo bb nb fb gb x<Fo ba na fa ga x
     ·have HT:Hid (JE ba na fa ga no ho bb nb fb gb x=false):=(by show _=_;simp[JE,t0,t1]);go_wp2;go_ret;refine⟨Ah (Mj hlt' ?_).symm,B2.trans (hBv.mono qQ)⟩;rw[<-HX.out];exact HT.out
     ·have HT:Hid (JE ba na fa ga no ho bb nb fb gb x=true):=(by show _=_;simp[JE,t0,t1]);go_wp2;go_roundw;case rel=>
       refine⟨k+1,by omega,by go_num,fun j hj=>?_,hBv⟩;by_cases e:j=k
       ·subst e;rw[<-HX.out];exact HT.out
       ·exact HA.out j qQ
      case measure=>simp[intOf];omega
   ·go_wp2;go_ret;have e:k=na+nb:=qQ;exact⟨Ah (QT h0 (fun i hi=>HA i qQ)).symm,Bw⟩
def OY(id made b1:Int)(a1:Option Addr)(n1 k1:Nat)(f1 g1:Nat->Int)(b2:Int)(a2:Option Addr)(n2 k2:Nat)(f2 g2:Nat->Int)(a3:Option Addr)(n3 k3:Nat)(h:Nat->Int)(bl:Int)(al:Option Addr)(nl kl:Nat)(fl gl:Nat->Int)(w:World)(_hn1:n1<=maxLen)(_hn2:n2<=maxLen)(hn3:n3<=maxLen)(hc1:Bd w a1 n1 f1 g1)(_hc2:Bd w a2 n2 f2 g2)(hc3:Bp w a3 n3 h)(_hnl:nl<=maxLen)(hcl:Bd w al nl fl gl)(hm1:n1<=1048576)(hml:nl<=1048576)(hr1:∀j,j<n1->∀i,i<j->f1 i<f1 j)(hrl:∀j,j<nl->∀i,i<j->fl i<fl j):
 Calls prog 99 #[.agg #[iT qH id,iT qH b1,qV a1 n1 k1,iT qH b2,qV a2 n2 k2,qV a3 n3 k3,iT qH made],.agg #[iT qH bl,qV al nl kl]] w fun e w'=>e= .returned (.bool (CX bl nl fl gl n3 h b1 n1 f1 g1))/\Below w w w':=by
 have n4:No (.cells #[iT qH id,iT qH b1,qV a1 n1 k1,iT qH b2,qV a2 n2 k2,qV a3 n3 k3,iT qH made] 53):=⟨⟩;have n5:No (.cells #[iT qH bl,qV al nl kl] 42):=⟨⟩;have hb0:=((Below.refl _ w).alloc nr n4).alloc sI n5;have yT:Ag ((w.alloc n4).alloc n5) w n4:=(Ag.new w _).alloc _;have yL:Ag ((w.alloc n4).alloc n5) (w.heap.size+1) n5:=by have:=Ag.new (w.alloc n4) n5;simpa using this
 go_enter func99,ntmps99
 go_wp2_with fail
 refine(GQ _ _ _ _ fl gl _ _ _ h _ _ _ _ f1 g1 _ hml hm1 hn3 (hcl.below hb0) (hc1.below hb0) (hc3.below hb0) hrl hr1).mono ?_;rintro e w1 ⟨rfl,hb1⟩;have B1:Below w w w1:=hb0.trans (hb1.mono sO);clear yT yL hb0 hb1;go_wp2;go_ret;exact⟨rfl,B1⟩
def Qi(id made b1:Int)(a1:Option Addr)(n1 k1:Nat)(f1 g1:Nat->Int)(b2:Int)(a2:Option Addr)(n2 k2:Nat)(f2 g2:Nat->Int)(a3:Option Addr)(n3 k3:Nat)(h:Nat->Int)(bl:Int)(al:Option Addr)(nl kl:Nat)(fl gl:Nat->Int)(w:World)(hn1:n1<=maxLen)(hn2:n2<=maxLen)(hn3:n3<=maxLen)(hc1:Bd w a1 n1 f1 g1)(hc2:Bd w a2 n2 f2 g2)(hc3:Bp w a3 n3 h)(hnl:nl<=maxLen)(hcl:Bd w al nl fl gl)(hm1:n1<=1048576)(hml:nl<=1048576)(hr1:∀j,j<n1->∀i,i<j->f1 i<f1 j)(hrl:∀j,j<nl->∀i,i<j->fl i<fl j):
 Calls prog 95 #[.agg #[iT qH id,iT qH b1,qV a1 n1 k1,iT qH b2,qV a2 n2 k2,qV a3 n3 k3,iT qH made],.agg #[iT qH bl,qV al nl kl]] w fun e w'=>e= .returned (.bool (CX bl nl fl gl n3 h b1 n1 f1 g1&&CX b1 n1 f1 g1 n3 h bl nl fl gl))/\Below w w w':=by
 have n4:No (.cells #[iT qH id,iT qH b1,qV a1 n1 k1,iT qH b2,qV a2 n2 k2,qV a3 n3 k3,iT qH made] 53):=⟨⟩;have n5:No (.cells #[iT qH bl,qV al nl kl] 42):=⟨⟩;have hb0:=((Below.refl _ w).alloc nr n4).alloc sI n5;have yT:Ag ((w.alloc n4).alloc n5) w n4:=(Ag.new w _).alloc _;have yL:Ag ((w.alloc n4).alloc n5) (w.heap.size+1) n5:=by have:=Ag.new (w.alloc n4) n5;simpa using this
 go_enter func95,ntmps95
 go_wp2_with fail
 refine(OY _ _ _ _ _ _ f1 g1 _ _ _ _ f2 g2 _ _ _ h _ _ _ _ fl gl _ hn1 hn2 hn3 (hc1.below hb0) (hc2.below hb0) (hc3.below hb0) hnl (hcl.below hb0) hm1 hml hr1 hrl).mono ?_;rintro e w1 ⟨rfl,hb1⟩;have B1:Below w w w1:=hb0.trans (hb1.mono sO);have xT:=yT.below hb1;have xL:=yL.below hb1;obtain⟨x0,x1,x2,x3,x4,x5,x6⟩:=xT.seven;obtain⟨x7,x8⟩:=xL.two;clear yT yL hb0 hb1;by_cases t1:CX bl nl fl gl n3 h b1 n1 f1 g1=true
 ·go_wp2_with fail
  refine(GQ _ _ _ _ f1 g1 _ _ _ h _ _ _ _ fl gl _ hm1 hml hn3 (hc1.below B1) (hcl.below B1) (hc3.below B1) hr1 hrl).mono ?_;rintro e w2 ⟨rfl,hb2⟩;have B2:Below w w w2:=B1.trans (hb2.mono B1.size);clear x0 x1 x2 x3 x4 x5 x6 x7 x8 xT xL;go_wp2;go_ret;exact⟨Ah (by rw[t1];rfl),B2⟩
 ·have t1':CX bl nl fl gl n3 h b1 n1 f1 g1=false:=by simpa using t1
  clear t1;go_wp2;go_ret;exact⟨Ah (by rw[t1'];rfl),B1⟩
end Go.Proofs.YtdaccbddcjlkpaaGreatDoor
