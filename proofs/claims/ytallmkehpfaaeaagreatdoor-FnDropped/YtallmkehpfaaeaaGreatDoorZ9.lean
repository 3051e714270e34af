import Derived.Test.YtallmkehpfaaeaaGreatDoorZ8
import Derived.Test.YtallmkehpfaaeaaGreatDoorZ2
import Derived.Test.YtallmkehpfaaeaaGreatDoorZ0
set_option maxRecDepth 100000
set_option maxHeartbeats 16000000
namespace Go.Proofs.YtallmkehpfaaeaaGreatDoor
open Go Go.RowKit Go.Deep Go.Maps
def insL(o:ObjV):List ObjV→List ObjV
 |[]=>[o]
 |x::r=>if o.id<x.id then o::x::r else x::insL o r
theorem insL_some{o:ObjV}:∀{a b:List ObjV},(∃y∈a,o.id<y.id)→insL o (a++b)=insL o a++b
 |[],b,h=>by obtain⟨y,hy,_⟩:=h;exact absurd hy List.not_mem_nil
 |x::a,b,h=>by
  show insL o (x::(a++b))=insL o (x::a)++b;unfold insL;split
  ·rfl
  ·rename_i hx;obtain⟨y,hy,hl⟩:=h;rcases List.mem_cons.1 hy with rfl|hy
   ·exact absurd hl hx
   ·rw[insL_some ⟨y,hy,hl⟩];rfl
theorem insL_none{o:ObjV}:∀{a b:List ObjV},(∀y∈a,¬o.id<y.id)→insL o (a++b)=a++insL o b
 |[],b,_=>rfl
 |x::a,b,h=>by
  show insL o (x::(a++b))=_;rw[insL,if_neg (h x List.mem_cons_self),insL_none (fun y hy=>h y (List.mem_cons_of_mem _ hy))];rfl
theorem insL_len{o:ObjV}:∀{a:List ObjV},(insL o a).length=a.length+1
 |[]=>rfl
 |x::a=>by
  unfold insL;split
  ·simp
  ·rw[List.length_cons,insL_len,List.length_cons]
theorem insL_mem{o x:ObjV}:∀{a:List ObjV},x∈insL o a→x=o∨x∈a
 |[],h=> .inl (List.mem_singleton.1 h)
 |y::a,h=>by
  unfold insL at h;split at h
  ·rcases List.mem_cons.1 h with h|h
   ·exact .inl h
   ·exact .inr h
  ·rcases List.mem_cons.1 h with h|h
   ·exact .inr (h▸List.mem_cons_self)
   ·rcases insL_mem h with h|h
    ·exact .inl h
    ·exact .inr (List.mem_cons_of_mem _ h)
def KerV.oL(k:KerV)(j:Nat):List ObjV:=(List.range j).map k.O
theorem oL_succ(k:KerV)(j:Nat):k.oL (j+1)=k.oL j++[k.O j]:=by unfold KerV.oL;rw[List.range_succ,List.map_append];rfl
theorem oL_len(k:KerV)(j:Nat):(k.oL j).length=j:=by simp[KerV.oL]
def addTo(k:KerV)(o:ObjV)(j:Nat):Bool→List ObjV→Prop
 |false,l=>l=k.oL j∧∀y∈k.oL j,¬o.id<y.id
 |true,l=>l=insL o (k.oL j)∧∃y∈k.oL j,o.id<y.id
theorem addTo_skip{k:KerV}{o:ObjV}{j:Nat}{l:List ObjV}(h:addTo k o j false l)(hx:¬o.id<(k.O j).id):addTo k o (j+1) false (l++[k.O j]):=by
 refine⟨by rw[oL_succ,h.1],fun y hy=>?_⟩;rw[oL_succ]at hy;rcases List.mem_append.1 hy with hy|hy
 ·exact h.2 y hy
 ·rw[List.mem_singleton.1 hy];exact hx
theorem addTo_put{k:KerV}{o:ObjV}{j:Nat}{l:List ObjV}(h:addTo k o j false l)(hx:o.id<(k.O j).id):addTo k o (j+1) true (l++[o]++[k.O j]):=by
 refine⟨?_,k.O j,by rw[oL_succ];exact List.mem_append_right _ List.mem_cons_self,hx⟩;rw[oL_succ,insL_none h.2,h.1,insL,if_pos hx,List.append_assoc];rfl
theorem addTo_more{k:KerV}{o:ObjV}{j:Nat}{l:List ObjV}(h:addTo k o j true l):addTo k o (j+1) true (l++[k.O j]):=by
 obtain⟨h1,y,hy,hl⟩:=h;refine⟨by rw[oL_succ,insL_some ⟨y,hy,hl⟩,h1],y,by rw[oL_succ];exact List.mem_append_left _ hy,hl⟩
theorem addTo_len{k:KerV}{o:ObjV}{j:Nat}:∀{b:Bool}{l:List ObjV},addTo k o j b l→l.length≤j+1
 |false,_,h=>by rw[h.1,oL_len];omega
 |true,_,h=>by rw[h.1,insL_len,oL_len];omega
theorem l4Add_any(k:KerV)(o:ObjV)(w:World)(hk:k.at w)(hn:k.on≤1048000):
 Calls Tryz.prog 123 #[k.val,.agg #[.int .i64 o.id,.int .i64 o.kind,.int .i64 o.up,.int .i64 o.b1,.slice o.c1.a o.c1.n o.c1.k,.string o.data,.slice o.items.a o.items.n o.items.k,.slice o.own.a o.own.n o.own.k,.int .i64 o.b2,.slice o.c2.a o.c2.n o.c2.k]] w fun e w'=>∃(oa:Option Addr) (co:Nat),e= .returned (.agg #[.slice k.ta k.tn k.tk,.slice oa (insL o (k.oL k.on)).length co])∧OwnOb w' w.heap.size (.slice oa (insL o (k.oL k.on)).length co) (insL o (k.oL k.on))∧Below w.heap.size w w':=by
 have n4:No (.cells #[.int .i64 o.id,.int .i64 o.kind,.int .i64 o.up,.int .i64 o.b1,.slice o.c1.a o.c1.n o.c1.k,.string o.data,.slice o.items.a o.items.n o.items.k,.slice o.own.a o.own.n o.own.k,.int .i64 o.b2,.slice o.c2.a o.c2.n o.c2.k] 47):=⟨⟩;have n7:No (.cells #[.slice k.ta k.tn k.tk,.slice k.oa k.on k.ok] 27):=⟨⟩;have n8:No (.cells #[.slice none 0 0,.slice none 0 0] 27):=⟨⟩;have n1:Nw (((w.alloc n7).alloc n4).alloc n8):=⟨⟩;have b0:Below w.heap.size w n1:=(((Below.refl _ w).alloc (Nat.le_refl _) _).alloc (by simp) _).alloc (by simp;omega) _;have A0:Blk n1 w.heap.size n7:=((Blk.new w n7).alloc _).alloc _;have P0:Blk n1 (w.heap.size+1) n4:=by have:=(Blk.new (w.alloc n7) n4).alloc n8;simpa using this
 have R0:Blk n1 (w.heap.size+1+1) n8:=by have:=Blk.new ((w.alloc n7).alloc n4) n8;simpa using this
 have HO:=hid (hk.2.2.2.below b0);have HB:=hid b0;have lV:Hid ((n1:World).heap.size=w.heap.size+3):=hid (by simp);have E0:Hid (OwnOb ((n1:World).alloc (.cells #[] 47)) (n1:World).heap.size (.slice (some ⟨w.heap.size+1+1+1,0,none⟩) 0 0) []):=hid (by
  have h:=OwnOb.made n1 (n1:World).heap.size (Nat.le_refl _);rw[show(some ⟨(n1:World).heap.size,0,none⟩:Option Addr)=some ⟨w.heap.size+1+1+1,0,none⟩ from by simp]at h;exact h)
 have BE:=hid ((Below.refl _ n1).alloc (Nat.le_refl _) (.cells #[] 47));have HA:=hid A0;have HP:=hid P0;have HR:=hid R0;unfold KerV.val;clear hk b0 A0 P0 R0;go_enter Tryz.func123,Tryz.ntmps123
 go_wp2;generalize (n1:World)=V at *;go_loopw [5,6,7] (fun v d i wr=>∃(j:Nat) (b:Bool) (l:List ObjV) (la:Option Addr) (lc:Nat),j≤k.on∧i= .int .i64 j∧d= .bool b∧v= .slice la l.length lc∧addTo k o j b l∧OwnOb wr V.heap.size (.slice la l.length lc) l∧Below V.heap.size V wr) (fun _ _ i _=>k.on-(intOf i).toNat)
 case atStart=>exact⟨0,false,[],_,0,Nat.zero_le _,rfl,rfl,rfl,⟨rfl,fun y hy=>absurd hy List.not_mem_nil⟩,E0.out,BE.out⟩
 case round=>
  clear E0 BE;obtain⟨j,d,l,la,lc,hj,rfl,rfl,rfl,ad,ow,be⟩:=hrel;have AT:=hid ad;have OW:=hid ow;have BB:=hid be;have ll:l.length≤1048575:=by have:=addTo_len ad;omega
  have ll2:l.length+1≤1048576:=by omega
  clear ad ow be;obtain⟨a0,a1⟩:=(HA.out.below BB.out).two;have PB:=hid (HP.out.below BB.out);obtain⟨o0,o1,o2,o3,o4,o5,o6,o7,o8,o9⟩:=PB.out.ten;by_cases hlt:j<k.on
  ·have i1:(j:Int)<(k.on:Int):=(by omega);have i0:(0:Int)≤(j:Int):=(by omega);obtain⟨b,off,ea,hbl,hc⟩:=HO.out (by omega);have CC:Cells10 wr b (off+j*10) (k.O j):=(hc j hlt).1.below hbl BB.out;have q0:wr.cell? ⟨b,off+j*10,none⟩=some (.int .i64 (k.O j).id):=CC.c0;have q1:wr.cell? ⟨b,off+j*10+1,none⟩=some (.int .i64 (k.O j).kind):=CC.c1;have q2:wr.cell? ⟨b,off+j*10+2,none⟩=some (.int .i64 (k.O j).up):=CC.c2;have q3:wr.cell? ⟨b,off+j*10+3,none⟩=some (.int .i64 (k.O j).b1):=CC.c3;have q4:wr.cell? ⟨b,off+j*10+4,none⟩=some (.slice (k.O j).c1.a (k.O j).c1.n (k.O j).c1.k):=CC.c4;have q5:wr.cell? ⟨b,off+j*10+5,none⟩=some (.string (k.O j).data):=CC.c5;have q6:wr.cell? ⟨b,off+j*10+6,none⟩=some (.slice (k.O j).items.a (k.O j).items.n (k.O j).items.k):=CC.c6;have q7:wr.cell? ⟨b,off+j*10+7,none⟩=some (.slice (k.O j).own.a (k.O j).own.n (k.O j).own.k):=CC.c7;have q8:wr.cell? ⟨b,off+j*10+8,none⟩=some (.int .i64 (k.O j).b2):=CC.c8;have q9:wr.cell? ⟨b,off+j*10+9,none⟩=some (.slice (k.O j).c2.a (k.O j).c2.n (k.O j).c2.k):=CC.c9;rw[ea]at a1;have hbw:b<wr.heap.size:=Nat.lt_of_lt_of_le hbl BB.out.size;have HLT:=hid hlt;have EA:=hid ea;have HC:Hid (∀X,Below V.heap.size V X→Cells10 X b (off+j*10) (k.O j)):=hid (fun X hX=>(hc j HLT.out).1.below hbl hX);clear hc CC ea hlt;cases d with
   |true=>
    go_wp2_with fail
    go_quiet(fail)
    have bn:Below wr.heap.size wr (wr.drewN nq):=below_drewN (Below.refl _ wr) nq;have OWn:=hid (OW.out.below bn);have BBn:=hid (BB.out.trans (bn.mono BB.out.size));clear a0 a1 q0 q1 q2 q3 q4 q5 q6 q7 q8 q9 o0 o1 o2 o3 o4 o5 o6 o7 o8 o9 PB;clear bn OW BB;generalize wr.drewN nq=W at *;obtain⟨a0,a1⟩:=(HA.out.below BBn.out).two;rw[EA.out]at a1;have PB:=hid (HP.out.below BBn.out);obtain⟨o0,o1,o2,o3,o4,o5,o6,o7,o8,o9⟩:=PB.out.ten;have CD:Cells10 W b (off+j*10) (k.O j):=HC.out W BBn.out;have q0:W.cell? ⟨b,off+j*10,none⟩=some (.int .i64 (k.O j).id):=CD.c0;have q1:W.cell? ⟨b,off+j*10+1,none⟩=some (.int .i64 (k.O j).kind):=CD.c1;have q2:W.cell? ⟨b,off+j*10+2,none⟩=some (.int .i64 (k.O j).up):=CD.c2;have q3:W.cell? ⟨b,off+j*10+3,none⟩=some (.int .i64 (k.O j).b1):=CD.c3;have q4:W.cell? ⟨b,off+j*10+4,none⟩=some (.slice (k.O j).c1.a (k.O j).c1.n (k.O j).c1.k):=CD.c4;have q5:W.cell? ⟨b,off+j*10+5,none⟩=some (.string (k.O j).data):=CD.c5;have q6:W.cell? ⟨b,off+j*10+6,none⟩=some (.slice (k.O j).items.a (k.O j).items.n (k.O j).items.k):=CD.c6;have q7:W.cell? ⟨b,off+j*10+7,none⟩=some (.slice (k.O j).own.a (k.O j).own.n (k.O j).own.k):=CD.c7;have q8:W.cell? ⟨b,off+j*10+8,none⟩=some (.int .i64 (k.O j).b2):=CD.c8;have q9:W.cell? ⟨b,off+j*10+9,none⟩=some (.slice (k.O j).c2.a (k.O j).c2.n (k.O j).c2.k):=CD.c9;clear CD;have sV:V.heap.size≤W.heap.size:=BBn.out.size;have n2:No (.cells #[.int .i64 (k.O j).id,.int .i64 (k.O j).kind,.int .i64 (k.O j).up,.int .i64 (k.O j).b1,.slice (k.O j).c1.a (k.O j).c1.n (k.O j).c1.k,.string (k.O j).data,.slice (k.O j).items.a (k.O j).items.n (k.O j).items.k,.slice (k.O j).own.a (k.O j).own.n (k.O j).own.k,.int .i64 (k.O j).b2,.slice (k.O j).c2.a (k.O j).c2.n (k.O j).c2.k] 47):=⟨⟩;have QO:=hid (OWn.out.below ((Below.refl _ W).alloc (Nat.le_refl _) n2));have QL:Hid (LiesC (W.alloc n2) (some ⟨W.heap.size,0,none⟩) 1 (cells10 [k.O j])):=hid (OwnOb.one W (k.O j));have sQ:V.heap.size≤(W.alloc n2).heap.size:=(by simp;omega);have bQ:=hid (BBn.out.alloc BBn.out.size n2);go_wp2_with(at_builtin;refine wpList_appendOwnOb _ rfl _ _ rfl V.heap.size (.slice la l.length lc) l rfl QO.out _ _ (k.O j) rfl QL.out (by omega) sQ ?_;intro a7 c7 w7 o7 g7;have O7:=hid o7;have B7:Hid (Below V.heap.size V w7):=hid (bQ.out.trans (below_grown g7 sQ (fun j e=>(World.ownsRow.lt QO.out j e).1)));clear o7 g7)
    go_roundw;case rel=>exact⟨j+1,true,l++[k.O j],a7,c7,by have:=HLT.out;omega,by go_num,rfl,by simp,addTo_more AT.out,by rw[show(l++[k.O j]).length=l.length+1 from by simp];exact O7.out,B7.out⟩
    case measure=>have:=HLT.out;simp[intOf];omega
   |false=>
    by_cases hx:o.id<(k.O j).id
    ·have hx':decide (o.id<(k.O j).id)=true:=decide_eq_true hx;have HX:=hid hx;go_wp2_with fail
     go_quiet(fail)
     have bn:Below wr.heap.size wr (wr.drewN nq):=below_drewN (Below.refl _ wr) nq;have OWn:=hid (OW.out.below bn);have BBn:=hid (BB.out.trans (bn.mono BB.out.size));clear a0 a1 q0 q1 q2 q3 q4 q5 q6 q7 q8 q9 o0 o1 o2 o3 o4 o5 o6 o7 o8 o9 PB;clear bn OW BB;generalize wr.drewN nq=W at *;obtain⟨a0,a1⟩:=(HA.out.below BBn.out).two;rw[EA.out]at a1;have PB:=hid (HP.out.below BBn.out);obtain⟨o0,o1,o2,o3,o4,o5,o6,o7,o8,o9⟩:=PB.out.ten;have CD:Cells10 W b (off+j*10) (k.O j):=HC.out W BBn.out;have q0:W.cell? ⟨b,off+j*10,none⟩=some (.int .i64 (k.O j).id):=CD.c0;have q1:W.cell? ⟨b,off+j*10+1,none⟩=some (.int .i64 (k.O j).kind):=CD.c1;have q2:W.cell? ⟨b,off+j*10+2,none⟩=some (.int .i64 (k.O j).up):=CD.c2;have q3:W.cell? ⟨b,off+j*10+3,none⟩=some (.int .i64 (k.O j).b1):=CD.c3;have q4:W.cell? ⟨b,off+j*10+4,none⟩=some (.slice (k.O j).c1.a (k.O j).c1.n (k.O j).c1.k):=CD.c4;have q5:W.cell? ⟨b,off+j*10+5,none⟩=some (.string (k.O j).data):=CD.c5;have q6:W.cell? ⟨b,off+j*10+6,none⟩=some (.slice (k.O j).items.a (k.O j).items.n (k.O j).items.k):=CD.c6;have q7:W.cell? ⟨b,off+j*10+7,none⟩=some (.slice (k.O j).own.a (k.O j).own.n (k.O j).own.k):=CD.c7;have q8:W.cell? ⟨b,off+j*10+8,none⟩=some (.int .i64 (k.O j).b2):=CD.c8;have q9:W.cell? ⟨b,off+j*10+9,none⟩=some (.slice (k.O j).c2.a (k.O j).c2.n (k.O j).c2.k):=CD.c9;clear CD;have sV:V.heap.size≤W.heap.size:=BBn.out.size;have mk1:True:=trivial;have n5:No (.cells #[.int .i64 o.id,.int .i64 o.kind,.int .i64 o.up,.int .i64 o.b1,.slice o.c1.a o.c1.n o.c1.k,.string o.data,.slice o.items.a o.items.n o.items.k,.slice o.own.a o.own.n o.own.k,.int .i64 o.b2,.slice o.c2.a o.c2.n o.c2.k] 47):=⟨⟩;have PO:=hid (OWn.out.below ((Below.refl _ W).alloc (Nat.le_refl _) n5));have PL:Hid (LiesC (W.alloc n5) (some ⟨W.heap.size,0,none⟩) 1 (cells10 [o])):=hid (OwnOb.one W o);have sP:V.heap.size≤(W.alloc n5).heap.size:=(by simp;omega);have bP:=hid (BBn.out.alloc BBn.out.size n5);go_wp2_with(first
      |(at_builtin;have mq:=mk1;clear mk1 mq;refine wpList_appendOwnOb _ rfl _ _ rfl V.heap.size (.slice la l.length lc) l rfl PO.out _ _ o rfl PL.out (by omega) sP ?_;intro a6 c6 w6 ow6 g6;have B6:Hid (Below V.heap.size V w6):=hid (bP.out.trans (below_grown g6 sP (fun j e=>(World.ownsRow.lt PO.out j e).1)));have O6:=hid (ow6.below ((Below.refl _ w6).alloc (Nat.le_refl _) (.cells #[.int .i64 (k.O j).id,.int .i64 (k.O j).kind,.int .i64 (k.O j).up,.int .i64 (k.O j).b1,.slice (k.O j).c1.a (k.O j).c1.n (k.O j).c1.k,.string (k.O j).data,.slice (k.O j).items.a (k.O j).items.n (k.O j).items.k,.slice (k.O j).own.a (k.O j).own.n (k.O j).own.k,.int .i64 (k.O j).b2,.slice (k.O j).c2.a (k.O j).c2.n (k.O j).c2.k] 47)));have QL:Hid (LiesC (w6.alloc (.cells #[.int .i64 (k.O j).id,.int .i64 (k.O j).kind,.int .i64 (k.O j).up,.int .i64 (k.O j).b1,.slice (k.O j).c1.a (k.O j).c1.n (k.O j).c1.k,.string (k.O j).data,.slice (k.O j).items.a (k.O j).items.n (k.O j).items.k,.slice (k.O j).own.a (k.O j).own.n (k.O j).own.k,.int .i64 (k.O j).b2,.slice (k.O j).c2.a (k.O j).c2.n (k.O j).c2.k] 47)) (some ⟨w6.heap.size,0,none⟩) 1 (cells10 [k.O j])):=hid (OwnOb.one w6 (k.O j));have s6:V.heap.size≤w6.heap.size:=B6.out.size;have sQ:V.heap.size≤(w6.alloc (.cells #[.int .i64 (k.O j).id,.int .i64 (k.O j).kind,.int .i64 (k.O j).up,.int .i64 (k.O j).b1,.slice (k.O j).c1.a (k.O j).c1.n (k.O j).c1.k,.string (k.O j).data,.slice (k.O j).items.a (k.O j).items.n (k.O j).items.k,.slice (k.O j).own.a (k.O j).own.n (k.O j).own.k,.int .i64 (k.O j).b2,.slice (k.O j).c2.a (k.O j).c2.n (k.O j).c2.k] 47)).heap.size:=(by simp;omega);have bQ:=hid (B6.out.alloc B6.out.size (.cells #[.int .i64 (k.O j).id,.int .i64 (k.O j).kind,.int .i64 (k.O j).up,.int .i64 (k.O j).b1,.slice (k.O j).c1.a (k.O j).c1.n (k.O j).c1.k,.string (k.O j).data,.slice (k.O j).items.a (k.O j).items.n (k.O j).items.k,.slice (k.O j).own.a (k.O j).own.n (k.O j).own.k,.int .i64 (k.O j).b2,.slice (k.O j).c2.a (k.O j).c2.n (k.O j).c2.k] 47));clear ow6 g6 a0 a1 q0 q1 q2 q3 q4 q5 q6 q7 q8 q9 o0 o1 o2 o3 o4 o5 o6 o7 o8 o9;obtain⟨a0,a1⟩:=(HA.out.below B6.out).two;rw[EA.out]at a1;have CE:Cells10 w6 b (off+j*10) (k.O j):=HC.out w6 B6.out;have q0:w6.cell? ⟨b,off+j*10,none⟩=some (.int .i64 (k.O j).id):=CE.c0;have q1:w6.cell? ⟨b,off+j*10+1,none⟩=some (.int .i64 (k.O j).kind):=CE.c1;have q2:w6.cell? ⟨b,off+j*10+2,none⟩=some (.int .i64 (k.O j).up):=CE.c2;have q3:w6.cell? ⟨b,off+j*10+3,none⟩=some (.int .i64 (k.O j).b1):=CE.c3;have q4:w6.cell? ⟨b,off+j*10+4,none⟩=some (.slice (k.O j).c1.a (k.O j).c1.n (k.O j).c1.k):=CE.c4;have q5:w6.cell? ⟨b,off+j*10+5,none⟩=some (.string (k.O j).data):=CE.c5;have q6:w6.cell? ⟨b,off+j*10+6,none⟩=some (.slice (k.O j).items.a (k.O j).items.n (k.O j).items.k):=CE.c6;have q7:w6.cell? ⟨b,off+j*10+7,none⟩=some (.slice (k.O j).own.a (k.O j).own.n (k.O j).own.k):=CE.c7;have q8:w6.cell? ⟨b,off+j*10+8,none⟩=some (.int .i64 (k.O j).b2):=CE.c8;have q9:w6.cell? ⟨b,off+j*10+9,none⟩=some (.slice (k.O j).c2.a (k.O j).c2.n (k.O j).c2.k):=CE.c9;clear CE;have l6:(l++[o]).length≤1048576:=(by simp;omega);have mk2:True:=trivial)
      |(at_builtin;have mq:=mk2;refine wpList_appendOwnOb _ rfl _ _ rfl V.heap.size (.slice a6 (l.length+1) c6) (l++[o]) rfl O6.out _ _ (k.O j) rfl QL.out l6 sQ ?_;intro a7 c7 w7 o7 g7;have O7:=hid o7;have B7:Hid (Below V.heap.size V w7):=hid (bQ.out.trans (below_grown g7 sQ (fun j e=>(World.ownsRow.lt O6.out j e).1)));clear o7 g7))
     go_roundw;case rel=>exact⟨j+1,true,l++[o]++[k.O j],a7,c7,by have:=HLT.out;omega,by go_num,rfl,by simp,addTo_put AT.out HX.out,by rw[show(l++[o]++[k.O j]).length=(l++[o]).length+1 from by simp];exact O7.out,B7.out⟩
     case measure=>have:=HLT.out;simp[intOf];omega
    ·have hx':decide (o.id<(k.O j).id)=false:=decide_eq_false hx;have HX:=hid hx;go_wp2_with fail
     go_quiet(fail)
     have bn:Below wr.heap.size wr (wr.drewN nq):=below_drewN (Below.refl _ wr) nq;have OWn:=hid (OW.out.below bn);have BBn:=hid (BB.out.trans (bn.mono BB.out.size));clear a0 a1 q0 q1 q2 q3 q4 q5 q6 q7 q8 q9 o0 o1 o2 o3 o4 o5 o6 o7 o8 o9 PB;clear bn OW BB;generalize wr.drewN nq=W at *;obtain⟨a0,a1⟩:=(HA.out.below BBn.out).two;rw[EA.out]at a1;have PB:=hid (HP.out.below BBn.out);obtain⟨o0,o1,o2,o3,o4,o5,o6,o7,o8,o9⟩:=PB.out.ten;have CD:Cells10 W b (off+j*10) (k.O j):=HC.out W BBn.out;have q0:W.cell? ⟨b,off+j*10,none⟩=some (.int .i64 (k.O j).id):=CD.c0;have q1:W.cell? ⟨b,off+j*10+1,none⟩=some (.int .i64 (k.O j).kind):=CD.c1;have q2:W.cell? ⟨b,off+j*10+2,none⟩=some (.int .i64 (k.O j).up):=CD.c2;have q3:W.cell? ⟨b,off+j*10+3,none⟩=some (.int .i64 (k.O j).b1):=CD.c3;have q4:W.cell? ⟨b,off+j*10+4,none⟩=some (.slice (k.O j).c1.a (k.O j).c1.n (k.O j).c1.k):=CD.c4;have q5:W.cell? ⟨b,off+j*10+5,none⟩=some (.string (k.O j).data):=CD.c5;have q6:W.cell? ⟨b,off+j*10+6,none⟩=some (.slice (k.O j).items.a (k.O j).items.n (k.O j).items.k):=CD.c6;have q7:W.cell? ⟨b,off+j*10+7,none⟩=some (.slice (k.O j).own.a (k.O j).own.n (k.O j).own.k):=CD.c7;have q8:W.cell? ⟨b,off+j*10+8,none⟩=some (.int .i64 (k.O j).b2):=CD.c8;have q9:W.cell? ⟨b,off+j*10+9,none⟩=some (.slice (k.O j).c2.a (k.O j).c2.n (k.O j).c2.k):=CD.c9;clear CD;have sV:V.heap.size≤W.heap.size:=BBn.out.size;have n3:No (.cells #[.int .i64 (k.O j).id,.int .i64 (k.O j).kind,.int .i64 (k.O j).up,.int .i64 (k.O j).b1,.slice (k.O j).c1.a (k.O j).c1.n (k.O j).c1.k,.string (k.O j).data,.slice (k.O j).items.a (k.O j).items.n (k.O j).items.k,.slice (k.O j).own.a (k.O j).own.n (k.O j).own.k,.int .i64 (k.O j).b2,.slice (k.O j).c2.a (k.O j).c2.n (k.O j).c2.k] 47):=⟨⟩;have QO:=hid (OWn.out.below ((Below.refl _ W).alloc (Nat.le_refl _) n3));have QL:Hid (LiesC (W.alloc n3) (some ⟨W.heap.size,0,none⟩) 1 (cells10 [k.O j])):=hid (OwnOb.one W (k.O j));have sQ:V.heap.size≤(W.alloc n3).heap.size:=(by simp;omega);have bQ:=hid (BBn.out.alloc BBn.out.size n3);go_wp2_with(at_builtin;refine wpList_appendOwnOb _ rfl _ _ rfl V.heap.size (.slice la l.length lc) l rfl QO.out _ _ (k.O j) rfl QL.out (by omega) sQ ?_;intro a7 c7 w7 o7 g7;have O7:=hid o7;have B7:Hid (Below V.heap.size V w7):=hid (bQ.out.trans (below_grown g7 sQ (fun j e=>(World.ownsRow.lt QO.out j e).1)));clear o7 g7)
     go_roundw;case rel=>exact⟨j+1,false,l++[k.O j],a7,c7,by have:=HLT.out;omega,by go_num,rfl,by simp,addTo_skip AT.out (Int.not_lt.2 HX.out),by rw[show(l++[k.O j]).length=l.length+1 from by simp];exact O7.out,B7.out⟩
     case measure=>have:=HLT.out;simp[intOf];omega
  ·obtain rfl:j=k.on:=by omega
   have i1:¬(k.on:Int)<(k.on:Int):=(by omega);have rA:=(HA.out.below BB.out).warm;obtain⟨r0,r1⟩:=(HR.out.below BB.out).two;have rf:=(HR.out.below BB.out).warm;cases d with
   |true=>
    have EL:Hid ((insL o (k.oL k.on)).length=l.length∧insL o (k.oL k.on)=l):=hid ⟨by rw[AT.out.1],AT.out.1.symm⟩;go_wp2;have KB:=hid (HA.out.below BB.out);have RB:=hid ((HR.out.below BB.out).other (Q:=w.heap.size) (i:=1) (by omega) (.slice la l.length lc));have FO:=hid (((OwnOb.set OW.out KB.out (i:=1) (by decide) (.slice la l.length lc)).set RB.out (i:=0) (by decide) (.slice k.ta k.tn k.tk)).set (RB.out.setAt (i:=0) (.slice k.ta k.tn k.tk)) (i:=1) (by decide) (.slice la l.length lc));refine bodyPost_ret (ker_results _ _ (w.heap.size+1+1) 4 _ _ Tryz.results123 ((RB.out.setAt (i:=0) _).setAt (i:=1) _) rfl) rfl ⟨la,lc,by rw[EL.out.1],by rw[EL.out.2];exact FO.out.base HB.out.size,?_⟩;iterate 3 refine Below.setCell ?_ (by dsimp only;omega) _
    exact HB.out.trans (BB.out.mono HB.out.size)
   |false=>
    have EL:Hid ((insL o (k.oL k.on)).length=l.length+1∧insL o (k.oL k.on)=l++[o]):=hid (by
     have h:insL o (k.oL k.on)=l++[o]:=by
      have:=insL_none (b:=[]) AT.out.2;rw[List.append_nil]at this;rw[this,AT.out.1];rfl
     exact⟨by rw[h];simp,h⟩)
    have n6:No (.cells #[.int .i64 o.id,.int .i64 o.kind,.int .i64 o.up,.int .i64 o.b1,.slice o.c1.a o.c1.n o.c1.k,.string o.data,.slice o.items.a o.items.n o.items.k,.slice o.own.a o.own.n o.own.k,.int .i64 o.b2,.slice o.c2.a o.c2.n o.c2.k] 47):=⟨⟩;have PO:=hid (OW.out.below ((Below.refl _ wr).alloc (Nat.le_refl _) n6));have PL:Hid (LiesC (wr.alloc n6) (some ⟨wr.heap.size,0,none⟩) 1 (cells10 [o])):=hid (OwnOb.one wr o);have sV:V.heap.size≤wr.heap.size:=BB.out.size;have sP:V.heap.size≤(wr.alloc n6).heap.size:=(by simp;omega);have bP:=hid (BB.out.alloc BB.out.size n6);go_wp2_with(at_builtin;refine wpList_appendOwnOb _ rfl _ _ rfl V.heap.size (.slice la l.length lc) l rfl PO.out _ _ o rfl PL.out (by omega) sP ?_;intro a6 c6 w6 ow6 g6;have B6:Hid (Below V.heap.size V w6):=hid (bP.out.trans (below_grown g6 sP (fun j e=>(World.ownsRow.lt PO.out j e).1)));have O6:=hid ow6;clear ow6 g6 a0 a1 o0 o1 o2 o3 o4 o5 o6 o7 o8 o9 r0 r1 rf rA;obtain⟨a0,a1⟩:=(HA.out.below B6.out).two;have rA:=(HA.out.below B6.out).warm;obtain⟨r0,r1⟩:=(HR.out.below B6.out).two;have rf:=(HR.out.below B6.out).warm)
    have KB:=hid (HA.out.below B6.out);have n9:Nv (.slice a6 (l.length+1) c6):=⟨⟩;have RB:=hid ((HR.out.below B6.out).other (Q:=w.heap.size) (i:=1) (by omega) n9);have FO:=hid (((OwnOb.set O6.out KB.out (i:=1) (by decide) n9).set RB.out (i:=0) (by decide) (.slice k.ta k.tn k.tk)).set (RB.out.setAt (i:=0) (.slice k.ta k.tn k.tk)) (i:=1) (by decide) n9);refine bodyPost_ret (ker_results _ _ (w.heap.size+1+1) 4 _ _ Tryz.results123 ((RB.out.setAt (i:=0) _).setAt (i:=1) _) rfl) rfl ⟨a6,c6,by rw[EL.out.1],by rw[EL.out.1,EL.out.2];exact FO.out.base HB.out.size,?_⟩;iterate 3 refine Below.setCell ?_ (by dsimp only;omega) _
    exact HB.out.trans (B6.out.mono HB.out.size)
structure StepV where
 th:Int
 kind:Int
 id:Int
 «to»:Int
 cat:Int
 data:ByteArray
 b1:Int
 c1:CatL
 b2:Int
 c2:CatL
def StepV.cells(s:StepV):Array Value:=#[.int .i64 s.th,.int .i64 s.kind,.int .i64 s.id,.int .i64 s.to,.int .i64 s.cat,.string s.data,.int .i64 s.b1,.slice s.c1.a s.c1.n s.c1.k,.int .i64 s.b2,.slice s.c2.a s.c2.n s.c2.k]
def StepV.at(w:World)(s:StepV):Prop:=s.c1.at w∧s.c2.at w∧s.data.size≤maxLen
theorem StepV.at.below{w w':World}{s:StepV}(h:s.at w)(hb:Below w.heap.size w w'):s.at w':=⟨h.1.below hb,h.2.1.below hb,h.2.2⟩
theorem flat_set{α:Type}{f:α→List Value}{c:Nat}(hl:∀x,(f x).length=c):∀{l:List α}{t i:Nat}{x:α}{u:Value} (ht:t<l.length),i<c→f x=(f l[t]).set i u→((l.map f).flatten).set (t*c+i) u=((l.set t x).map f).flatten
 |[],t,_,_,_,ht,_,_=>absurd ht (Nat.not_lt_zero t)
 |y::r,0,i,x,u,_,hi,h=>by
  show(f y++(r.map f).flatten).set (0*c+i) u=f x++(r.map f).flatten;rw[Nat.zero_mul,Nat.zero_add,List.set_append_left _ _ (by rw[hl];exact hi)];have h':f x=(f y).set i u:=h;rw[h']
 |y::r,t+1,i,x,u,ht,hi,h=>by
  show(f y++(r.map f).flatten).set ((t+1)*c+i) u=f y++((r.set t x).map f).flatten;have e:(t+1)*c+i=(f y).length+(t*c+i):=by rw[hl,Nat.succ_mul];omega
  rw[e,List.set_append_right _ _ (by omega),Nat.add_sub_cancel_left];rw[flat_set hl (l:=r) (t:=t) (x:=x) (by simpa using ht) hi h]
theorem ThrV.cs_len(x:ThrV):x.cs.length=7:=rfl
theorem ObjV.cs_len(x:ObjV):x.cs.length=10:=rfl
theorem mem_set{α:Type}{l:List α}{t:Nat}{x y:α}(h:y∈l.set t x):y=x∨y∈l:=by
 rcases List.mem_or_eq_of_mem_set h with h|h
 ·exact .inr h
 ·exact .inl h
theorem KSt.setT{w:World}{B g ca:Nat}{vo:Value}{lt:List ThrV}{lo:List ObjV}(h:KSt w B (.slice (some ⟨g,0,none⟩) lt.length ca) vo lt lo){t i:Nat}{x:ThrV}{u:Value}(ht:t<lt.length)(hi:i<7)(hcs:x.cs=(lt[t]).cs.set i u)(hx:x.new B w)(hc:x.own.n≤x.own.k∧x.own.k≤maxLen):
 KSt (w.setCell ⟨g,t*7+i,none⟩ u) B (.slice (some ⟨g,0,none⟩) (lt.set t x).length ca) vo (lt.set t x) lo∧(∃cur,Blk w g (.cells cur 42))∧B≤g:=by
 have hg:∃cur,Blk w g (.cells cur 42):=by
  rcases h.t.2 with⟨hv,_⟩|⟨g',cap,cur,hv,_,hgg,_⟩
  ·cases hv
  ·cases hv;exact⟨cur,hgg⟩
 have hBg:B≤g:=(World.ownsRow.lt h.t g rfl).1;obtain⟨cur,hcur⟩:=hg;have kl:=keeps_set (i:=t*7+i) hcur (by decide) u;have el:(lt.set t x).length=lt.length:=by simp
 have ho:=(World.ownsRow.stored h.t (t*7+i) u).1;refine⟨⟨?_,h.o.set hcur (by decide) u,fun y hy=>?_,fun y hy=>(h.on y hy).keeps kl,fun y hy=>?_,h.oc⟩,⟨cur,hcur⟩,hBg⟩
 ·unfold OwnT;rw[el];have e:=flat_set (f:=ThrV.cs) ThrV.cs_len (l:=lt) (t:=t) (x:=x) (u:=u) ht hi hcs;unfold cells7;rw[←e];exact ho
 ·rcases mem_set hy with rfl|hy
  ·exact hx.keeps kl
  ·exact(h.tn y hy).keeps kl
 ·rcases mem_set hy with rfl|hy
  ·exact hc
  ·exact h.tc y hy
theorem KSt.setO{w:World}{B g co:Nat}{vt:Value}{lt:List ThrV}{lo:List ObjV}(h:KSt w B vt (.slice (some ⟨g,0,none⟩) lo.length co) lt lo){t i:Nat}{x:ObjV}{u:Value}(ht:t<lo.length)(hi:i<10)(hcs:x.cs=(lo[t]).cs.set i u)(hx:x.new B w)(hc:x.items.n≤x.items.k∧x.items.k≤maxLen):
 KSt (w.setCell ⟨g,t*10+i,none⟩ u) B vt (.slice (some ⟨g,0,none⟩) (lo.set t x).length co) lt (lo.set t x)∧(∃cur,Blk w g (.cells cur 47))∧B≤g:=by
 have hg:∃cur,Blk w g (.cells cur 47):=by
  rcases h.o.2 with⟨hv,_⟩|⟨g',cap,cur,hv,_,hgg,_⟩
  ·cases hv
  ·cases hv;exact⟨cur,hgg⟩
 have hBg:B≤g:=(World.ownsRow.lt h.o g rfl).1;obtain⟨cur,hcur⟩:=hg;have kl:=keeps_set (i:=t*10+i) hcur (by decide) u;have el:(lo.set t x).length=lo.length:=by simp
 have ho:=(World.ownsRow.stored h.o (t*10+i) u).1;refine⟨⟨h.t.set hcur (by decide) u,?_,fun y hy=>(h.tn y hy).keeps kl,fun y hy=>?_,h.tc,fun y hy=>?_⟩,⟨cur,hcur⟩,hBg⟩
 ·unfold OwnOb;rw[el];have e:=flat_set (f:=ObjV.cs) ObjV.cs_len (l:=lo) (t:=t) (x:=x) (u:=u) ht hi hcs;unfold cells10;rw[←e];exact ho
 ·rcases mem_set hy with rfl|hy
  ·exact hx.keeps kl
  ·exact(h.on y hy).keeps kl
 ·rcases mem_set hy with rfl|hy
  ·exact hc
  ·exact h.oc y hy
theorem getD_of_some{m:Int→Option Int}{x base c:Int}{D:DataW Unit}(h1:Maps.has D (.int .i64 x)=(m x).isSome)(h2:∀v,m x=some v→D.atKey (.int .i64 x) (.lit (.int .i64 0))= .lit (.int .i64 v))(hat:D.atKey (.int .i64 x) (.lit (.int .i64 0))= .lit (.int .i64 c)):
 (Maps.has D (.int .i64 x)=true→(m x).getD base=c)∧(Maps.has D (.int .i64 x)=false→(m x).getD base=base):=by
 cases hm:m x with
 |none=>simp[h1,hm]
 |some v=>
  have:=(h2 v hm).symm.trans hat;simp at this;simp[h1,hm,this]
theorem of_any(base:Int)(c n:Nat)(m:Int→Option Int)(x:Int)(w:World)(hm:MapIs w c n m)(hx:(Lit.int .i64 x).wf=true):
 Calls Tryz.prog 98 #[.agg #[.int .i64 base,.map (some c)],.int .i64 x] w fun e w'=>e= .returned (.int .i64 ((m x).getD base))∧Below w.heap.size w w':=by
 have hkey:keyOf Tryz.prog 2 (.int .i64 x)=some (.int .i64 x):=keyOf_int_mk Tryz.underlying2 hx;obtain⟨D,hown,hD,hall⟩:=hm.alloc (.cells #[.int .i64 base,.map (some c)] 145);obtain⟨h1,h2⟩:=hall x;clear hall;go_enter Tryz.func98,Tryz.ntmps98
 have HH:Hid (∀(c:Int),D.atKey (.int .i64 x) (.lit (.int .i64 0))= .lit (.int .i64 c)→(Maps.has D (.int .i64 x)=true→(m x).getD base=c)∧(Maps.has D (.int .i64 x)=false→(m x).getD base=base)):=fun c hat=>getD_of_some h1 h2 hat;clear h1 h2;go_wp2_with(at_lookup;refine wpList_lookup_own_ok_int _ rfl _ _ 138 rfl 2 2 .i64 keyed2 Tryz.underlying138 Tryz.underlying2 (zero2 _) c n _ rfl hown _ _ rfl hkey ?_;intro cc hat hwc)
 ·go_ret;have t:Maps.has D (.int .i64 x)=true:=by assumption
  exact⟨ret_int ((HH.out _ hat).1 t).symm,(Below.refl _ _).alloc (Nat.le_refl _) _⟩
 ·go_ret;have t:Maps.has D (.int .i64 x)=false:=by assumption
  exact⟨ret_int ((HH.out _ hat).2 t).symm,(Below.refl _ _).alloc (Nat.le_refl _) _⟩
def levOf(base:Int)(n:Nat)(f g:Nat→Int)(x:Int):Int:=(look f g n x).getD base
theorem look_none{f g:Nat→Int}{k:Nat}{x:Int}(h:∀i,i<k→f i≠x):look f g k x=none:=by
 induction k with
 |zero=>rfl
 |succ k ih=>simp only[look];rw[if_neg (h k (by omega))];exact ih fun i hi=>h i (by omega)
theorem look_some{f g:Nat→Int}{n k:Nat}(hr:∀j,j<n→∀i,i<j→f i<f j)(hk:k<n):look f g n (f k)=some (g k):=by
 induction n with
 |zero=>omega
 |succ n ih=>
  simp only[look];by_cases e:k=n
  ·subst e;rw[if_pos rfl]
  ·have:=hr n (by omega) k (by omega);rw[if_neg (by omega)];exact ih (fun j hj i hi=>hr j (by omega) i hi) (by omega)
theorem l1Level_any(base:Int)(a:Option Addr)(n cap:Nat)(f g:Nat→Int)(x:Int)(w:World)(hn:n≤maxLen)(hc:CatsAt w a n f g)(hr:∀j,j<n→∀i,i<j→f i<f j):
 Calls Tryz.prog 155 #[.agg #[.int .i64 base,.slice a n cap],.int .i64 x] w fun e w'=>e= .returned (.int .i64 (levOf base n f g x))∧Below w.heap.size w w':=by
 unfold maxLen at hn;have hb0:=(Below.refl _ w).alloc (Nat.le_refl _) (.cells #[.int .i64 base,.slice a n cap] 30);have hc1:=hc.below hb0;have HR:Hid (∀j,j<n→∀i,i<j→f i<f j):=hr;clear hc hr;go_enter Tryz.func155,Tryz.ntmps155
 go_wp2;go_loop [5] (fun i=>∃k:Nat,k≤n∧i= .int .i64 k∧(∀j,j<k→f j≠x)) (fun i=>n-(intOf i).toNat)
 case atStart=>exact⟨0,Nat.zero_le _,rfl,fun j hj=>by omega⟩
 case round=>
  obtain⟨k,hk,rfl,hall⟩:=hrel;have HA:Hid (∀j,j<k→f j≠x):=hall;clear hall;by_cases hlt':k<n
  ·obtain⟨b,off,rfl,hlt,hcc⟩:=hc1 (by omega);obtain⟨g1,g2⟩:=hcc k hlt';clear hcc hc1;by_cases t:(f k==x)=true
   ·go_wp2;go_ret;have t':f k=x:=(by simpa using t);exact⟨ret_int (by rw[←t',levOf,look_some HR.out hlt'];rfl),hb0⟩
   ·have t':(f k==x)=false:=(by simpa using t);clear t;go_wp2;go_round;case rel=>
     refine⟨k+1,by omega,by go_num,fun j hj=>?_⟩;by_cases e:j=k
     ·subst e;simpa using t'
     ·exact HA.out j (by omega)
    case measure=>simp[intOf];omega
  ·clear hc1;go_wp2;go_ret;have e:k=n:=(by omega);subst e;exact⟨ret_int (by rw[levOf,look_none HA.out];rfl),hb0⟩
theorem labOk_wf{base:Int}{n:Nat}{f g:Nat→Int}(h:labOk base n f g=true):∀i,i<n→(Lit.int .i64 (f i)).wf=true∧(Lit.int .i64 (g i)).wf=true:=fun i hi=>by
 obtain⟨h1,h2,_⟩:=catOk_iff.1 ((labOk_out h).2.2 i hi);exact⟨wf_of_le (by omega) (by omega),wf_of_le (by omega) (by omega)⟩
end Go.Proofs.YtallmkehpfaaeaaGreatDoor
