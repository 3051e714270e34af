import Derived.Test.YtefoofaocbjdoaaGreatDoorZ3s
set_option maxRecDepth 100000
set_option maxHeartbeats 4000000
namespace Go.Proofs.YtefoofaocbjdoaaGreatDoor
open Go Go.RowKit Go.Deep Go.Maps Go.Proofs.Tryz
variable {ids ups:Nat->Int}{q i n B:Nat}{w w':World}
def BF(ids ups:Nat->Int)(q i:Nat):List Int:=((List.range q).filter (fun j=>ups j==ids i)).map ids
theorem Ul(h:ups q=ids i):BF ids ups (q+1) i=BF ids ups q i++[ids q]:=by
 simp[BF,List.range_succ,h]
theorem Pw(h:ups q≠ids i):BF ids ups (q+1) i=BF ids ups q i:=by
 simp[BF,List.range_succ,h]
theorem J5(ids ups:Nat->Int)(q i:Nat):(BF ids ups q i).length<=q:=by
 unfold BF;rw[List.length_map];exact Nat.le_trans (List.length_filter_le _ _) (by simp)
theorem GH.update{b:Nat}{m:Int->Option Nat}(h:GH w b n m)(hn:n<maxLen)(kx:Int)(p:Nat)(wk:(Lit.int .i64 kx).wf=true):
 ∃w',(Instr.mapUpdate 89 (.map (some b)) (.int .i64 kx) (.pointer p)).run prog w= .ok () w'/\GH w' b (n+1) (IK m kx p)/\w.grownBy w' (some b):=by
 obtain⟨D,hown,hD,hall⟩:=h;obtain⟨w',hrun,r1,r2⟩:=hown.update Hy underlying89 hn (keyOf_int_mk underlying2 wk) (val:= .pointer p) (d:= .lit (.int .i64 (p:Int))) (ps:=[]) rfl;have hp:=GH.put (k:=kx) (v:=p) hD hall;exact⟨w',hrun,⟨_,r1,hp.1,hp.2⟩,r2⟩
theorem Ay(h:Below w.heap.size w w'):Below w.heap.size w w'.drew:=below_drewN h 1
theorem below_grown{row:Option Nat}(h:w.grownBy w' row)(hB:B<=w.heap.size)(hr:∀j,row=some j->B<=j):Below B w w':=
 ⟨h.os,h.tape,h.output,h.size,fun k hk=>h.block k (by omega) (fun e=>by have:=hr k e.symm;omega)⟩
theorem MC{ops:Array Oper}{o:Oper}{a:Act}{w:World}{K:Act->World->Prop}{Q:Exit->Act->World->Prop}{E:Prop}(hgd:o.guard=none)(s x:Operand)
 (ho:o.op= .call {callee:= .builtin .append,args:=#[s,x],argTypes:=#[55,55]})
 (B:Nat)(v:Value)(l:List Int)(hs:a.eval s=v)(hown:Az w B v l)(ad:Option Addr)(c:Nat)(r:Int)(hx:a.eval x= .slice ad 1 c)(hc:Dw w ad [r])
 (hm:l.length<=100000)(hB:B<=w.heap.size)
 (h:∀a' c' w',Az w' B (.slice a' (l.length+1) c') (l++[r])->w.grownBy w' v.ownBlock->((Value.slice a' (l.length+1) c').ownBlock=v.ownBlock∨(Value.slice a' (l.length+1) c').ownBlock=some w.heap.size)->K (a.put o.dst (.slice a' (l.length+1) c')) w'):
 if Region.wanted o (yielded ops a.tmps)=true then Oper.wp prog o a w K Q else E:=by
 have hw:Region.wanted o (yielded ops a.tmps)=true:=by simp[Region.wanted,hgd]
 rw[if_pos hw];refine Ds underlying55 Tryz.info2 rfl (by omega) w s x ho B v l.length _ hs hown ad 1 c [.int .i64 r] hx rfl hc (by simp[Value.oneCell']) (by omega) (by omega) hB fun a' c' w' h2 h3 h4=>?_;refine h a' c' w' ?_ h3 h4;unfold Az;rw[List.length_append,List.map_append];exact h2
theorem DW.same{c:Nat}{ob off:Nat}{nb:Nat->Nat}{kv:Nat->Value}{K K':Nat->List Int}(h:DW w B c n ids ob off nb kv K)(e:∀i,i<n->K' i=K i):DW w B c n ids ob off nb kv K':=
 ⟨h.map,h.blk,h.inj,fun i hi=>by rw[e i hi];exact h.own i hi,h.apart,h.low,h.lowc⟩
theorem DW.grow{wr W w1:World}{B c k:Nat}{ids:Nat->Int}{ob off:Nat}{nb:Nat->Nat}(H:DW wr B c k ids ob off nb (fun _=> .slice none 0 0) (fun _=>[]))(hr:Dp ids (k+1))(hb:Below wr.heap.size wr W)
 (hA:Ah W wr.heap.size (.cells #[.pointer (some ⟨ob,off+k*10,none⟩),.slice none 0 0] 122))(hM:GH w1 c (k+1) (IK (fun x=>(Bl ids k x).map nb) (ids k) wr.heap.size))(hG:W.grownBy w1 (some c)):
 DW w1 B c (k+1) ids ob off (fun i=>if i=k then wr.heap.size else nb i) (fun _=> .slice none 0 0) (fun _=>[]):=by
 have hc:c<wr.heap.size:=H.map.lt;have cne:∀i,i<k->c≠nb i:=fun i hi e=>by
  obtain⟨es,clock,hm⟩:=H.map.isMap;have:=H.blk i hi;unfold Ah at this;rw[<-e,hm]at this;cases this
 refine⟨?_,fun i hi=>?_,fun i j hi hj=>?_,fun i hi=>Az.nil _ _,fun i j _ _ _=> .inl rfl,fun i hi=>?_,H.lowc⟩
 ·have e:(fun x=>(Bl ids (k+1) x).map (fun i=>if i=k then wr.heap.size else nb i))=IK (fun x=>(Bl ids k x).map nb) (ids k) wr.heap.size:=by
   funext x;rw[Ty hr];unfold IK;split
   ·simp
   ·cases e1:Bl ids k x with
    |none=>simp[e1]
    |some j=>
     have:=(AE e1).1;simp only[Option.map_some,e1];rw[if_neg (by omega)]
  rw[e];exact hM
 ·by_cases e:i=k
  ·subst e;rw[if_pos rfl];exact(hG.block _ hA.lt (by simp;omega)).trans hA
  ·rw[if_neg e];have h1:=(H.blk i (by omega)).below hb;exact(hG.block _ h1.lt (by simp;exact fun e=>cne i (by omega) e.symm)).trans h1
 ·have lt:∀i,i<k->nb i<wr.heap.size:=fun i hi=>(H.blk i hi).lt;by_cases e:i=k
  ·by_cases e':j=k
   ·omega
   ·rw[if_pos e,if_neg e'];have:=lt j (by omega);omega
  ·by_cases e':j=k
   ·rw[if_neg e,if_pos e'];have:=lt i (by omega);omega
   ·rw[if_neg e,if_neg e'];exact H.inj i j (by omega) (by omega)
 ·split
  ·have:=H.lowc;omega
  ·exact H.low i (by omega)
theorem Mm(ob off n cap:Nat)(O:Nat->Ab)(w:World)(hn:n<=271)(hO:Hv w (some ⟨ob,off,none⟩) n O)(hr:Dp (fun i=>(O i).id) n)
 (hw:∀i,i<n->(Lit.int .i64 (O i).id).wf=true/\(Lit.int .i64 (O i).up).wf=true):
 Calls prog 44 #[.slice (some ⟨ob,off,none⟩) n cap] w fun e w'=>∃c nb kv,e= .returned (.map (some c))/\DW w' w.heap.size c n (fun i=>(O i).id) ob off nb kv (BF (fun i=>(O i).id) (fun i=>(O i).up) n)/\Below w.heap.size w w':=by
 have hmm:=@run_makeMap prog;have HO:=hid hO;have HR:=hid hr;have HW:=hid hw;clear hO hr hw;have M0:=hid (GH.made w);have hb0:=Be w (.map #[] 0);go_enter func44,ntmps44
 go_wp2;go_loopw [11] (fun i wr=>∃(k:Nat) (nb:Nat->Nat),k<=n/\i= .int .i64 k/\Hid (DW wr w.heap.size w.heap.size k (fun i=>(O i).id) ob off nb (fun _=> .slice none 0 0) (fun _=>[]))/\Below w.heap.size w wr) (fun i _=>n-(intOf i).toNat)
 case atStart=>
  refine⟨0,fun _=>0,Nat.zero_le _,rfl,hid ⟨?_,fun i hi=>by omega,fun i j hi=>by omega,fun i hi=>by omega,fun i j hi=>by omega,fun i hi=>by omega,Nat.le_refl _⟩,hb0⟩;exact M0.out
 case round=>
  obtain⟨k,nb,hk,rfl,HN,hB⟩:=hrel;clear M0 hb0 hmm;by_cases hlt:k<n
  ·obtain⟨_,_,ea,hlt0,hcc⟩:=HO.out.below hB (by omega);cases ea;have q0:=(hcc k hlt).1.c0;have i1:(k:Int)<(n:Int):=(by omega);have i0:(0:Int)<=(k:Int):=(by omega);have W0:=hid (HW.out k hlt).1;clear hcc;go_wp2;have kn:k<maxLen:=(by unfold maxLen;omega);have n3:No (.cells #[.pointer (some ⟨ob,off+k*10,none⟩),.slice none 0 0] 122):=⟨⟩;have b1:Below wr.heap.size wr ((wr.alloc n3).drew):=Ay (Be wr _);have A1:Ah ((wr.alloc n3).drew) wr.heap.size n3:=Ah.new wr _;obtain⟨w1,hrun,hm1,hg1⟩:=(HN.out.map.below b1).update kn (O k).id wr.heap.size W0.out;have HM:=hid hm1;have HG:=hid hg1;have HB:=hid b1;have HA:=hid A1;clear hm1 hg1 b1 A1;go_region;have NN:=hid (HN.out.grow (HR.out.less (by omega)) HB.out HA.out HM.out HG.out);have B1:Below w.heap.size w w1:=(Af hB HB.out).trans (below_grown HG.out (Af hB HB.out).size (fun j hj=>by cases hj;exact Nat.le_refl _));clear HM HG HB HA hrun HN q0;go_wp2;exact⟨⟨k+1,_,by omega,by go_num,NN,B1⟩,by simp[intOf];omega⟩
  ·have e:k=n:=(by omega);subst e;have i1:¬(k:Int)<(k:Int):=(by omega);go_wp2;go_loopw [28] (fun i wr=>∃(q:Nat) (kv:Nat->Value),q<=k/\i= .int .i64 q/\Hid (DW wr w.heap.size w.heap.size k (fun i=>(O i).id) ob off nb kv (BF (fun i=>(O i).id) (fun i=>(O i).up) q))/\Below w.heap.size w wr) (fun i _=>k-(intOf i).toNat)
   case atStart=>exact⟨0,_,Nat.zero_le _,rfl,HN,hB⟩
   case round=>
    obtain⟨q,kv,hq,rfl,HN,hB⟩:=hrel;by_cases hlt:q<k
    ·obtain⟨_,_,ea,hlt0,hcc⟩:=HO.out.below hB (by omega);cases ea;obtain⟨q0,q1,q2,q3,q4,q5,q6,q7,q8,q9⟩:=(hcc q hlt).1;simp only[Au.val,AI.val,AF.val]at q4 q6 q7 q9;have i1:(q:Int)<(k:Int):=(by omega);have b1:Below wr.heap.size wr (wr.alloc (.cells (O q) 63)):=Be wr _;have n1:No (.cells (O q) 63):=⟨⟩;have A1:=Ah.new wr n1;have x0:_=some (Value.int .i64 (O q).id):=A1.c0 0 rfl;have x2:_=some (Value.int .i64 (O q).up):=A1.c0 2 rfl;have N1:=hid (HN.out.below b1);have B1:=Af hB b1;have LK:=N1.out.map.look (x:=(O q).up) (HW.out q hlt).2;clear hcc hlt0;cases hf:Bl (fun i=>(O i).id) k (O q).up with
     |none=>
      have NK:Hid (∀i,i<k->BF (fun i=>(O i).id) (fun i=>(O i).up) (q+1) i=BF (fun i=>(O i).id) (fun i=>(O i).up) q i):=hid (fun i hi=>Pw (fun e=>Is hf i hi e.symm));simp only[hf,Option.map_none]at LK;clear hf;go_wp2;exact⟨⟨q+1,kv,by omega,by go_num,hid (N1.out.same NK.out),B1⟩,by simp[intOf];omega⟩
     |some u=>
      obtain⟨hu,eu⟩:=AE hf;have EU:=hid eu;simp only[hf,Option.map_some]at LK;clear hf eu;have A2:=N1.out.blk u hu;have O2:=N1.out.own u hu;have hlen:=J5 (fun i=>(O i).id) (fun i=>(O i).up) q u;go_wp2;generalize wr.alloc n1=W at *;have y1:_=some (kv u):=A2.c0 1 rfl;have n2:Nw (W.alloc (.cells #[.int .i64 (O q).id] 2)):=⟨⟩;have bl:Below W.heap.size W ((n2:World).drew):=Ay (Be W _);have N2:=hid (N1.out.below bl);have l1:Dw ((n2:World).drew) (some ⟨W.heap.size,0,none⟩) [(O q).id]:=Dw.one (O q).id;have hB2:=Af B1 bl;have OA:=hid (N2.out.own u hu);have HL:=hid l1;have lm:(BF (fun i=>(O i).id) (fun i=>(O i).up) q u).length<=100000:=(by omega);have s1:=hB2.size;have A3:Hid (∀w3:World,((n2:World).drew).grownBy w3 (kv u).ownBlock->Ah w3 (nb u) (.cells #[.pointer (some ⟨ob,off+u*10,none⟩),kv u] 122)):=hid (fun w3 g3=>(g3.block (nb u) (N2.out.blk u hu).lt (Ub (N2.out.own u hu) (N2.out.blk u hu) (by omega))).trans (N2.out.blk u hu));have FIN:Hid (∀(a3:Option Addr) (c3:Nat) (w3:World),Az w3 w.heap.size (.slice a3 ((BF (fun i=>(O i).id) (fun i=>(O i).up) q u).length+1) c3) (BF (fun i=>(O i).id) (fun i=>(O i).up) q u++[(O q).id])->((n2:World).drew).grownBy w3 (kv u).ownBlock->((Value.slice a3 ((BF (fun i=>(O i).id) (fun i=>(O i).up) q u).length+1) c3).ownBlock=(kv u).ownBlock∨(Value.slice a3 ((BF (fun i=>(O i).id) (fun i=>(O i).up) q u).length+1) c3).ownBlock=some ((n2:World).drew).heap.size)->
       ∃kv',Hid (DW (w3.setCell ⟨nb u,1,none⟩ (.slice a3 ((BF (fun i=>(O i).id) (fun i=>(O i).up) q u).length+1) c3)) w.heap.size w.heap.size k (fun i=>(O i).id) ob off nb kv' (BF (fun i=>(O i).id) (fun i=>(O i).up) (q+1)))/\Below w.heap.size w (w3.setCell ⟨nb u,1,none⟩ (.slice a3 ((BF (fun i=>(O i).id) (fun i=>(O i).up) q u).length+1) c3))):=hid (fun a3 c3 w3 ho g3 v3=>by
       refine⟨_,hid ((N2.out.step hu ho g3 v3).same (fun i hi=>?_)),?_⟩
       ·split
        ·rename_i e;subst e;exact Ul EU.out.symm
        ·rename_i e;exact Pw (fun e'=>e (HR.out.inj hi hu (by rw[<-e'];exact EU.out.symm)))
       ·exact(hB2.trans (below_grown g3 hB2.size (fun j hj=>(World.ownsRow.lt (N2.out.own u hu) j hj).1))).setCell (N1.out.low u hu) _)
      have y1a:(n2:World).cell? ⟨nb u,1,none⟩=some (kv u):=((Be W _).cell (p:=⟨nb u,1,none⟩) A2.lt).trans y1;have un:¬nb u=W.heap.size:=(by have:=A2.lt;omega);have pn:¬wr.heap.size=W.heap.size:=(by have:=A1.lt;omega);clear l1 bl b1 q0 q1 q2 q3 q4 q5 q6 q7 q8 q9 hlen A1 A2 O2 LK hB2;go_region_law((refine MC (by rfl) _ _ (by rfl) w.heap.size (kv u) (BF (fun i=>(O i).id) (fun i=>(O i).up) q u) (by rfl) OA.out _ 1 (O q).id (by rfl) HL.out lm s1 ?_;intro a3 c3 w3 O3 g3 v3;have Z:=hid (A3.out w3 g3);have z1:_=some (kv u):=Z.out.c0 1 rfl;have z2:=Z.out.jC 1;have O4:=hid O3;have G4:=hid g3;have V4:=hid v3;clear O3 g3 v3))
      all_goals(
       obtain⟨kv',nn,bb⟩:=FIN.out _ _ _ O4.out G4.out V4.out;clear FIN O4 G4 V4 Z z1 z2 A3 OA HL N2 N1 HN;go_wp2;exact⟨⟨q+1,kv',by omega,by go_num,nn,bb⟩,by simp[intOf];omega⟩)
    ·have e:q=k:=(by omega);subst e;have i1:¬(q:Int)<(q:Int):=(by omega);go_wp2;go_ret;exact⟨_,rfl,⟨_,_,HN.out⟩,hB⟩
section
variable {t e size bytes:Nat}{z:Value} (hT:prog.underlying t=some (.slice e)) (hI:(prog.info? e).map (fun i=>(i.zero,i.size,i.bytes))=some (some z,size,bytes)) (hzs:z.cells.size=size) (hsz:0<size)
include hT hI hzs hsz
theorem BU{ops:Array Oper}{rest:List Oper}{o:Oper}{a:Act}{Q:Exit->Act->World->Prop}(w:World)(hgd:o.guard=none)(s x:Operand)
 (ho:o.op= .call {callee:= .builtin .append,args:=#[s,x],argTypes:=#[t,t]})
 (B:Nat)(v:Value)(n:Nat)(cs:List Value)(hs:a.eval s=v)(hown:w.ownsRow B e size v n cs)(ad:Option Addr)(m c:Nat)(cs':List Value)(hx:a.eval x= .slice ad m c)(hl:cs'.length=m*size)(hc:Bp w ad m cs')(h1:∀u∈cs',u.oneCell'=true)
 (hm:n+m<=4194304)(hby:(n+m)*bytes<=140737488355328)(hB:B<=w.heap.size)
 (h:∀a' c' w',w'.ownsRow B e size (.slice a' (n+m) c') (n+m) (cs++cs')->w.grownBy w' v.ownBlock->wpList prog ops Q rest (a.put o.dst (.slice a' (n+m) c')) w'):wpList prog ops Q (o::rest) a w:=
 wpList_plain hgd fun _ hK=>Ds hT hI hzs hsz w s x ho B v n cs hs hown ad m c cs' hx hl hc h1 hm hby hB fun a' c' w' h2 h3 _=>hK _ _ (h a' c' w' h2 h3)
end
def Au.new(B:Nat)(w:World)(c:Au):Prop:=c.at w/\(0<c.n->∃b m F,c.a=some ⟨b,0,none⟩/\B<=b/\c.n*2<=m/\w.rowIs b 117 m F)
def AI.new(B:Nat)(w:World)(c:AI):Prop:=c.at w/\(0<c.n->∃b m F,c.a=some ⟨b,0,none⟩/\B<=b/\c.n<=m/\w.rowIs b 2 m F)
def AF.new(B:Nat)(w:World)(c:AF):Prop:=c.at w/\(0<c.n->∃b m F,c.a=some ⟨b,0,none⟩/\B<=b/\(c.n<=m/\m=c.k)/\w.rowIs b 9 m F)
theorem Au.new.below{B:Nat}{w w':World}{c:Au}(h:c.new B w)(hb:Below w w w'):c.new B w':=⟨h.1.below hb,fun hn=>by
 obtain⟨b,m,F,e,h1,h2,h3⟩:=h.2 hn;exact⟨b,m,F,e,h1,h2,Mo h3 hb⟩⟩
theorem AI.new.below{B:Nat}{w w':World}{c:AI}(h:c.new B w)(hb:Below w w w'):c.new B w':=⟨h.1.below hb,fun hn=>by
 obtain⟨b,m,F,e,h1,h2,h3⟩:=h.2 hn;exact⟨b,m,F,e,h1,h2,Mo h3 hb⟩⟩
theorem AF.new.below{B:Nat}{w w':World}{c:AF}(h:c.new B w)(hb:Below w w w'):c.new B w':=⟨h.1.below hb,fun hn=>by
 obtain⟨b,m,F,e,h1,h2,h3⟩:=h.2 hn;exact⟨b,m,F,e,h1,h2,Mo h3 hb⟩⟩
theorem Au.new.low{B B':Nat}{w:World}{c:Au}(h:c.new B w)(hB:B'<=B):c.new B' w:=⟨h.1,fun hn=>by
 obtain⟨b,m,F,e,h1,h2,h3⟩:=h.2 hn;exact⟨b,m,F,e,by omega,h2,h3⟩⟩
theorem AI.new.low{B B':Nat}{w:World}{c:AI}(h:c.new B w)(hB:B'<=B):c.new B' w:=⟨h.1,fun hn=>by
 obtain⟨b,m,F,e,h1,h2,h3⟩:=h.2 hn;exact⟨b,m,F,e,by omega,h2,h3⟩⟩
theorem AF.new.low{B B':Nat}{w:World}{c:AF}(h:c.new B w)(hB:B'<=B):c.new B' w:=⟨h.1,fun hn=>by
 obtain⟨b,m,F,e,h1,h2,h3⟩:=h.2 hn;exact⟨b,m,F,e,by omega,h2,h3⟩⟩
theorem Dt{w:World}{B e size n c:Nat}{a:Option Addr}{cs:List Value}(h:w.ownsRow B e size (.slice a n c) n cs)(hn:0<n):∃b m F,a=some ⟨b,0,none⟩/\B<=b/\n*size<=m/\w.rowIs b e m F:=by
 rcases h.2 with⟨_,h0⟩|⟨g,cap,cur,hv,h1,h2,h3,h4,h5,h6⟩
 ·omega
 ·simp only[Value.slice.injEq]at hv;obtain⟨rfl,_,rfl⟩:=hv;exact⟨g,cur.size,fun i=>cur[i]?.getD undef,rfl,h1,by rw[h5];exact Nat.mul_le_mul_right _ h3,⟨cur,h2,rfl,fun i hi=>by simp[hi]⟩⟩
theorem Mw{w:World}{B e n c:Nat}{a:Option Addr}{cs:List Value}(h:w.ownsRow B e 1 (.slice a n c) n cs)(hn:0<n):∃b m F,a=some ⟨b,0,none⟩/\B<=b/\(n<=m/\m=c)/\w.rowIs b e m F:=by
 rcases h.2 with⟨_,h0⟩|⟨g,cap,cur,hv,h1,h2,h3,h4,h5,h6⟩
 ·omega
 ·simp only[Value.slice.injEq]at hv;obtain⟨rfl,_,rfl⟩:=hv;exact⟨g,cur.size,fun i=>cur[i]?.getD undef,rfl,h1,⟨by rw[h5];omega,by rw[h5];omega⟩,⟨cur,h2,rfl,fun i hi=>by simp[hi]⟩⟩
theorem VO{w:World}{a:Option Addr}{n:Nat}{f g:Nat->Int}(h:Ba w a n f g):Bp w a n (Cg f g n):=fun hn=>by
 obtain⟨b,off,e,hlt,hc⟩:=h hn;refine⟨b,off,e,hlt,fun j u hu=>?_⟩;by_cases hj:j<n*2
 ·rw[Dr _ _ _ _ hj]at hu;have hu':=Option.some.inj hu;rw[<-hu'];obtain⟨c0,c1⟩:=hc (j/2) (by omega);unfold Dk;by_cases e2:j%2=0
  ·rw[if_pos e2,<-c0];congr 2;omega
  ·rw[if_neg e2,<-c1];congr 2;omega
 ·rw[List.getElem?_eq_none (by rw[Cx];omega)]at hu;cases hu
theorem LP{w:World}{a:Option Addr}{n:Nat}{f:Nat->ByteArray}(h:Jl w a n f):Bp w a n ((List.range n).map (fun i=>Value.string (f i))):=fun hn=>by
 obtain⟨b,off,e,hlt,hc⟩:=h hn;refine⟨b,off,e,hlt,fun j u hu=>?_⟩;by_cases hj:j<n
 ·simp[hj]at hu;rw[<-hu];exact hc j hj
 ·simp[hj]at hu
theorem OJ(c:Au)(w:World)(hc:c.at w)(hn:c.n<=1048576):
 Calls prog 128 #[c.val] w fun e w'=>∃d:Au,e= .returned d.val/\c.same d/\d.new w w'/\Below w w w':=by
 obtain⟨a,n,cap,f,g⟩:=c;obtain⟨hm,hc⟩:=hc;unfold Au.val;simp only at hm hc hn ⊢;have L:=hid (VO hc);clear hc;go_enter func128,ntmps128
 go_wp2_with(refine BU underlying28 Tryz.info117 rfl (by omega) _ rfl _ _ rfl w (.slice none 0 0) 0 [] rfl (World.ownsRow_nil _ _ _ _) a n cap (Cg f g n) rfl (by simp[Cg]) L (Kt f g n) (by omega) (by omega) nr ?_;intro a3 c3 w3 o3 g3;rw[Nat.zero_add,List.nil_append]at o3;rw[Nat.zero_add])
 go_ret;have hr:AL w3 w (.slice a3 n c3) n f g:=o3;exact⟨⟨a3,n,c3,f,g⟩,rfl,⟨rfl,rfl,rfl⟩,⟨⟨hm,hr.cats⟩,fun h0=>Dt o3 h0⟩,below_grown g3 nr (fun j hj=>by cases hj)⟩
variable {B P t:Nat}{w w':World}{c:Au}
theorem Au.new.of(h:c.new B w)(hs:w.heap.size<=w'.heap.size)(hb:∀b,c.a=some ⟨b,0,none⟩->0<c.n->w'.heap[b]? =w.heap[b]?):c.new B w':=
 ⟨⟨h.1.1,fun hn=>by
   obtain⟨b,off,e,hlt,hc⟩:=h.1.2 hn;obtain⟨b',_,_,e',_⟩:=h.2 hn;have eb:=e.symm.trans e';cases eb;have ce:∀o,w'.cell? ⟨b,o,none⟩=w.cell? ⟨b,o,none⟩:=fun o=>World.cell?_of_block (a:=⟨b,o,none⟩) (hb b e' hn);exact⟨b,0,e,Nat.lt_of_lt_of_le hlt hs,fun i hi=>by rw[ce,ce];exact hc i hi⟩⟩,fun hn=>by
   obtain⟨b,m,F,e,h1,h2,h3⟩:=h.2 hn;exact⟨b,m,F,e,h1,h2,h3.of_block (hb b e hn)⟩⟩
theorem Au.new.ne(h:c.new B w){cs:Array Value}(hP:Ah w P (.cells cs t))(ht:t≠117):∀b,c.a=some ⟨b,0,none⟩->0<c.n->b≠P:=fun b e hn=>by
 obtain⟨b',m,F,e',_,_,h3⟩:=h.2 hn;rw[e]at e';cases e';exact Ff h3 hP.row (fun e=>ht e.symm)
theorem AI.new.of{c:AI}(h:c.new B w)(hs:w.heap.size<=w'.heap.size)(hb:∀b,c.a=some ⟨b,0,none⟩->0<c.n->w'.heap[b]? =w.heap[b]?):c.new B w':=
 ⟨⟨h.1.1,fun hn=>by
   obtain⟨b,off,e,hlt,hc⟩:=h.1.2 hn;obtain⟨b',_,_,e',_⟩:=h.2 hn;have eb:=e.symm.trans e';cases eb;have ce:∀o,w'.cell? ⟨b,o,none⟩=w.cell? ⟨b,o,none⟩:=fun o=>World.cell?_of_block (a:=⟨b,o,none⟩) (hb b e' hn);exact⟨b,0,e,Nat.lt_of_lt_of_le hlt hs,fun i hi=>by rw[ce];exact hc i hi⟩⟩,fun hn=>by
   obtain⟨b,m,F,e,h1,h2,h3⟩:=h.2 hn;exact⟨b,m,F,e,h1,h2,h3.of_block (hb b e hn)⟩⟩
theorem AI.new.ne{c:AI}(h:c.new B w){cs:Array Value}(hP:Ah w P (.cells cs t))(ht:t≠2):∀b,c.a=some ⟨b,0,none⟩->0<c.n->b≠P:=fun b e hn=>by
 obtain⟨b',m,F,e',_,_,h3⟩:=h.2 hn;rw[e]at e';cases e';exact Ff h3 hP.row (fun e=>ht e.symm)
theorem AF.new.of{c:AF}(h:c.new B w)(hs:w.heap.size<=w'.heap.size)(hb:∀b,c.a=some ⟨b,0,none⟩->0<c.n->w'.heap[b]? =w.heap[b]?):c.new B w':=
 ⟨⟨h.1.1,fun hn=>by
   obtain⟨b,off,e,hlt,hc⟩:=h.1.2.1 hn;obtain⟨b',_,_,e',_⟩:=h.2 hn;have eb:=e.symm.trans e';cases eb;have ce:∀o,w'.cell? ⟨b,o,none⟩=w.cell? ⟨b,o,none⟩:=fun o=>World.cell?_of_block (a:=⟨b,o,none⟩) (hb b e' hn);exact⟨b,0,e,Nat.lt_of_lt_of_le hlt hs,fun i hi=>by rw[ce];exact hc i hi⟩,h.1.2.2⟩,fun hn=>by
   obtain⟨b,m,F,e,h1,h2,h3⟩:=h.2 hn;exact⟨b,m,F,e,h1,h2,h3.of_block (hb b e hn)⟩⟩
theorem AF.new.ne{c:AF}(h:c.new B w){cs:Array Value}(hP:Ah w P (.cells cs t))(ht:t≠9):∀b,c.a=some ⟨b,0,none⟩->0<c.n->b≠P:=fun b e hn=>by
 obtain⟨b',m,F,e',_,_,h3⟩:=h.2 hn;rw[e]at e';cases e';exact Ff h3 hP.row (fun e=>ht e.symm)
theorem Lo(tmps:Array Value)(W:World)(P:Nat)(x y:Value)(h:Ah W P (.cells #[x,y] 30))(h2:tmps[2]? =some (.pointer P)):
 (results Tryz.f81 tmps).run prog W= .ok (.agg #[x,y]) W:=by
 obtain⟨z0,z1⟩:=h.two;simp[results,Tryz.results81,go_sem,h2,z0,z1]
theorem Bg(b:Int)(c:Au)(w:World)(hc:c.at w)(hn:c.n<=1048576):
 Calls prog 81 #[.agg #[.int .i64 b,c.val]] w fun e w'=>∃d:Au,e= .returned (.agg #[.int .i64 b,d.val])/\c.same d/\d.new w w'/\Below w w w':=by
 have n3:No (.cells #[.int .i64 0,.slice none 0 0] 30):=⟨⟩;have n4:No (.cells #[.int .i64 b,c.val] 30):=⟨⟩;have b0:Below w w ((w.alloc n4).alloc n3):=(Be w _).alloc (by simp) _;have A0:=(Ah.new w n4).alloc n3;have R0:Ah ((w.alloc n4).alloc n3) (w.heap.size+1) n3:=by
  have:=Ah.new (w.alloc n4) n3;simpa using this
 have C1:=hid (OJ c _ (hc.below b0) hn);obtain⟨x0,x1⟩:=A0.two;clear hc;go_enter func81,ntmps81
 go_wp2_with fail
 refine C1.out.mono ?_;rintro e w1 ⟨d,rfl,hs,hd,hb1⟩;have A1:=A0.below hb1;have R1:=R0.below hb1;have B1:=Af b0 hb1;have HD:=hid (hd.low b0.size);have HS:=hid hs;obtain⟨x0',x1'⟩:=A1.two;obtain⟨y0,y1⟩:=R1.two;have xf:=A1.jC;have yf:=R1.jC;have ne1:¬w.heap.size=w.heap.size+1:=by omega
 have ne2:¬w.heap.size+1=w.heap.size:=by omega
 clear hs hd C1 x0 x1 A0 R0 b0 hb1;unfold Au.val at x1' ⊢;go_wp2;refine bodyPost_ret (Lo _ _ (w.heap.size+1) (.int .i64 b) (.slice d.a d.n d.k) (((R1.other (Q:=w.heap.size) (i:=1) (by omega) _).jB (i:=0) _).jB (i:=1) _) rfl) rfl ⟨d,rfl,HS,?_,?_⟩
 ·refine HD.out.of (by simp) (fun g hg hn'=>?_);have n1:=HD.out.ne A1 (by decide) g hg hn';have n2:=HD.out.ne R1 (by decide) g hg hn';rw[blk_setCell_other _ _ _ _ (by dsimp only;omega),blk_setCell_other _ _ _ _ (by dsimp only;omega),blk_setCell_other _ _ _ _ (by dsimp only;omega)]
 ·exact((B1.setCell (by dsimp only;omega) _).setCell (by dsimp only;omega) _).setCell (by dsimp only;omega) _
open Go.BigFrame Go.Shelf
variable {W:World}{P t:Nat}
theorem Em{ops:Array Oper}{o:Oper}{a:Act}{w:World}{K:Act->World->Prop}{Q:Exit->Act->World->Prop}{E:Prop}(hgd:o.guard=none)(f:Nat)(x:Operand)(ats:Array TypeId)
 (ho:o.op= .call {callee:= .value (.func f),args:=#[x],argTypes:=ats})(eg:∀args w,(callFunc f args).run prog w= .ok (.enter f args) w)(v0:Value)(hv:a.eval x=v0)
 (R:Value->World->Prop)(hc:Calls prog f #[v0] w fun e w'=>∃v,e= .returned v/\R v w')(h:∀v w',R v w'->K (a.put o.dst v) w'):
 if Region.wanted o (yielded ops a.tmps)=true then Oper.wp prog o a w K Q else E:=by
 have hw:Region.wanted o (yielded ops a.tmps)=true:=by simp[Region.wanted,hgd]
 rw[if_pos hw];have e:(execOp a.eval o).run prog w= .ok (.enter f #[v0]) w:=by
  unfold execOp;simp only[ho,resolve,invoke,Sem.run_bind,List.map_toArray,List.map_cons,List.map_nil,hv];simp[go_sem,eg,Act.eval]
 unfold Oper.wp;rw[e,Oper.upon_enter];exact hc.mono fun e w' ⟨v,he,hr⟩=>by subst he;exact h v w' hr
def Ae.new(B:Nat)(w:World)(t:Ae):Prop:=t.c1.new B w/\t.c2.new B w/\t.own.new B w
def Ae.apart(t:Ae):Prop:=∀b b',t.c1.a=some ⟨b,0,none⟩->0<t.c1.n->t.c2.a=some ⟨b',0,none⟩->0<t.c2.n->b≠b'
theorem Ah.seven{x0 x1 x2 x3 x4 x5 x6:Value}(h:Ah W P (.cells #[x0,x1,x2,x3,x4,x5,x6] t)):W.cell? ⟨P,0,none⟩=some x0/\W.cell? ⟨P,1,none⟩=some x1/\W.cell? ⟨P,2,none⟩=some x2/\W.cell? ⟨P,3,none⟩=some x3/\W.cell? ⟨P,4,none⟩=some x4/\W.cell? ⟨P,5,none⟩=some x5/\W.cell? ⟨P,6,none⟩=some x6:=by
 unfold Ah at h;simp[World.cell?,h]
theorem Wt(tmps:Array Value)(W:World)(P:Nat)(x0 x1 x2 x3 x4 x5 x6:Value)(h:Ah W P (.cells #[x0,x1,x2,x3,x4,x5,x6] 57))(h2:tmps[2]? =some (.pointer P)):
 (results Tryz.f52 tmps).run prog W= .ok (.agg #[x0,x1,x2,x3,x4,x5,x6]) W:=by
 obtain⟨z0,z1,z2,z3,z4,z5,z6⟩:=h.seven;simp[results,Tryz.results52,go_sem,h2,z0,z1,z2,z3,z4,z5,z6]
theorem Ah.all7{z0 z1 z2 z3 z4 z5 z6:Value}(h:Ah W P (.cells #[z0,z1,z2,z3,z4,z5,z6] t))(x0 x1 x2 x3 x4 x5 x6:Value):
 Ah (((((((W.setCell ⟨P,0,none⟩ x0).setCell ⟨P,1,none⟩ x1).setCell ⟨P,2,none⟩ x2).setCell ⟨P,3,none⟩ x3).setCell ⟨P,4,none⟩ x4).setCell ⟨P,5,none⟩ x5).setCell ⟨P,6,none⟩ x6) P (.cells #[x0,x1,x2,x3,x4,x5,x6] t):=by
 have h0:Ah (W.setCell ⟨P,0,none⟩ x0) P (.cells #[x0,z1,z2,z3,z4,z5,z6] t):=h.jB (i:=0) x0;have h1:Ah ((W.setCell ⟨P,0,none⟩ x0).setCell ⟨P,1,none⟩ x1) P (.cells #[x0,x1,z2,z3,z4,z5,z6] t):=h0.jB (i:=1) x1;have h2:Ah (((W.setCell ⟨P,0,none⟩ x0).setCell ⟨P,1,none⟩ x1).setCell ⟨P,2,none⟩ x2) P (.cells #[x0,x1,x2,z3,z4,z5,z6] t):=h1.jB (i:=2) x2;have h3:Ah ((((W.setCell ⟨P,0,none⟩ x0).setCell ⟨P,1,none⟩ x1).setCell ⟨P,2,none⟩ x2).setCell ⟨P,3,none⟩ x3) P (.cells #[x0,x1,x2,x3,z4,z5,z6] t):=h2.jB (i:=3) x3;have h4:Ah (((((W.setCell ⟨P,0,none⟩ x0).setCell ⟨P,1,none⟩ x1).setCell ⟨P,2,none⟩ x2).setCell ⟨P,3,none⟩ x3).setCell ⟨P,4,none⟩ x4) P (.cells #[x0,x1,x2,x3,x4,z5,z6] t):=h3.jB (i:=4) x4;have h5:Ah ((((((W.setCell ⟨P,0,none⟩ x0).setCell ⟨P,1,none⟩ x1).setCell ⟨P,2,none⟩ x2).setCell ⟨P,3,none⟩ x3).setCell ⟨P,4,none⟩ x4).setCell ⟨P,5,none⟩ x5) P (.cells #[x0,x1,x2,x3,x4,x5,z6] t):=h4.jB (i:=5) x5;exact h5.jB (i:=6) x6
def Ab.new(B:Nat)(w:World)(t:Ab):Prop:=t.c1.new B w/\t.jA.new B w/\t.own.new B w/\t.c2.new B w
def Ab.apart(t:Ab):Prop:=∀b b',t.c1.a=some ⟨b,0,none⟩->0<t.c1.n->t.c2.a=some ⟨b',0,none⟩->0<t.c2.n->b≠b'
theorem Wo(tmps:Array Value)(W:World)(P:Nat)(x0 x1 x2 x3 x4 x5 x6 x7 x8 x9:Value)(h:Ah W P (.cells #[x0,x1,x2,x3,x4,x5,x6,x7,x8,x9] 63))(h2:tmps[2]? =some (.pointer P)):
 (results Tryz.f53 tmps).run prog W= .ok (.agg #[x0,x1,x2,x3,x4,x5,x6,x7,x8,x9]) W:=by
 obtain⟨z0,z1,z2,z3,z4,z5,z6,z7,z8,z9⟩:=h.jE;simp[results,Tryz.results53,go_sem,h2,z0,z1,z2,z3,z4,z5,z6,z7,z8,z9]
def Fs:Obj:= .cells #[.int .i64 0,.int .i64 0,.int .i64 0,.int .i64 0,.slice none 0 0,.string (ByteArray.mk #[]),.slice none 0 0,.slice none 0 0,.int .i64 0,.slice none 0 0] 63
def M6(N:Nat):Value:= .func (.func 102) #[] #[.pointer (some ⟨N+1,0,none⟩),.pointer N,.pointer (some ⟨N+1+1,0,none⟩)]
structure Ly(w0:World)(c:Nat)(w:World)(v:Value)(l:List Int):Prop where
 b:Below w0 w0 w
 q:Ah w w0 (.cells #[.map (some c)] 89)
 p:Ah w (w0.heap.size+1) (.cells #[v] 55)
 r:Ah w (w0.heap.size+1+1) (.cells #[M6 w0.heap.size] 157)
 o:Az w (w0.heap.size+1+1+1) v l
theorem Ah.grown{w w':World}{P:Nat}{o:Obj}{row:Option Nat}(h:Ah w P o)(hg:w.grownBy w' row)(hne:some P≠row):Ah w' P o:=(hg.block P h.lt hne).trans h
theorem Ly.push{w0 w w':World}{c:Nat}{v v':Value}{l:List Int}{x:Int}(h:Ly w0 c w v l)(ho:Az w' (w0.heap.size+1+1+1) v' (l++[x]))(hg:(w.alloc (.cells #[.int .i64 x] 2)).grownBy w' v.ownBlock):
 Ly w0 c (w'.setCell ⟨w0.heap.size+1,0,none⟩ v') v' (l++[x]):=by
 have b1:Below w w (w.alloc (.cells #[.int .i64 x] 2)):=Be w _;have hne:∀k,k<w0.heap.size+1+1+1->some k≠v.ownBlock:=fun k hk e=>by have:=(World.ownsRow.lt h.o k e.symm).1;omega
 have p1:=(h.p.below b1).grown hg (hne _ (by omega));have q1:=(h.q.below b1).grown hg (hne _ (by omega));have r1:=(h.r.below b1).grown hg (hne _ (by omega));refine⟨?_,q1.other (by omega) _,?_,r1.other (by omega) _,?_⟩
 ·exact((h.b.trans (b1.mono h.b.size)).trans (below_grown hg (by have:=h.q.lt;simp;omega) (fun j hj=>by have:=(World.ownsRow.lt h.o j hj).1;omega))).setCell (by dsimp only;omega) _
 ·simpa using p1.jB (i:=0) v'
 ·exact World.ownsRow.kept ho (row:=some (w0.heap.size+1)) ⟨rfl,rfl,rfl,by rw[nblk_setCell];exact Nat.le_refl _,fun j hj hne=>blk_setCell_other _ _ _ _ (by dsimp only;intro e;exact hne (by rw[e]))⟩ (.inr (fun e=>by have:=(World.ownsRow.lt ho _ e).1;omega))
theorem Ix(ids ups:Nat->Int)(n i:Nat):BF ids ups n i=(Du ids ups n i).map ids:=rfl
theorem Yc(l:List Nat)(f:Nat->List Nat)(j:Nat)(hj:j<l.length):((l.take j).flatMap f).length+(f l[j]).length<=(l.flatMap f).length:=by
 have e:l=l.take j++(l[j]::l.drop (j+1)):=by simp
 have:l.flatMap f=(l.take j).flatMap f++(f l[j]++(l.drop (j+1)).flatMap f):=by
  conv=>lhs;rw[e]
  rw[List.flatMap_append,List.flatMap_cons]
 rw[this,List.length_append,List.length_append];omega
theorem Yt(w0:World)(B c n:Nat)(ids ups:Nat->Int)(ob off:Nat)(nb:Nat->Nat)(kv:Nat->Value)(hN:DW w0 B c n ids ob off nb kv (BF ids ups n))(hr:Dp ids n)(h0:∀j,j<n->ids j≠ups 0)
 (hw:∀i,i<n->(Lit.int .i64 (ids i)).wf=true)(hn:n<=271)(f:Nat):
 ∀(i:Nat) (l:List Int) (v:Value) (w:World),i<n->(∀j m,j<n->Bn ids ups n m j=some i->m<f)->l.length+(FR ids ups n f i).length<=271->Ly w0 c w v l->
  Calls prog 102 #[.int .i64 (ids i),.pointer (some ⟨w0.heap.size+1,0,none⟩),.pointer (w0),.pointer (some ⟨w0.heap.size+1+1,0,none⟩)] w fun e w'=>
   ∃v',e= .returned (.tuple #[])/\Ly w0 c w' v' (l++(FR ids ups n f i).map ids):=by
 have HN:=hid hN;have HR:=hid hr;have H0:=hid h0;have HW:=hid hw;clear hN hr h0 hw;induction f with
 |zero=>intro i l v w hi hh;exact absurd (hh i 0 hi rfl) (by omega)
 |succ f ih=>
  intro i l v w hi hh hl hk;have IH:=hid ih;have HH:=hid hh;have HK:=hid hk;have hlen:l.length+1<=271:=by simp[FR]at hl;omega
  have HL:=hid hl;clear ih hh hk hl;have x1:_=some v:=HK.out.p.c0 0 rfl;have L1:=hid (Dw.one (w:=w) (ids i));have n1:Nw (w.alloc (.cells #[.int .i64 (ids i)] 2)):=⟨⟩;have b1:Below w w n1:=Be w _;have O1:Hid (Az n1 (w0.heap.size+1+1+1) v l):=hid (Az.alloc HK.out.o _);have hs:=HK.out.r.lt;have s1:w0.heap.size+1+1+1<=(n1:World).heap.size:=by simp;omega
  have P1:Hid (∀w':World,(n1:World).grownBy w' v.ownBlock->Ah w' (w0.heap.size+1) (.cells #[v] 55)):=hid (fun w' hg=>(HK.out.p.below b1).grown hg (fun e=>by have:=(World.ownsRow.lt HK.out.o _ e.symm).1;omega));clear b1;obtain⟨ka,kc,hkv⟩:=De (HN.out.own i hi);have KV:=hid hkv;clear hkv;have D3:Hid (∀(a3:Option Addr) (c3:Nat) (w3:World),Az w3 (w0.heap.size+1+1+1) (.slice a3 (l++[ids i]).length c3) (l++[ids i])->(n1:World).grownBy w3 v.ownBlock->
   Ly w0 c (w3.setCell ⟨w0.heap.size+1,0,none⟩ (.slice a3 (l.length+1) c3)) (.slice a3 (l.length+1) c3) (l++[ids i])):=hid (fun a3 c3 w3 o3 g3=>HK.out.push (by simpa using o3) g3)
  have E3:Hid (∀(W:World) (v':Value) (l':List Int),Ly w0 c W v' l'->W.cell? ⟨w0,0,none⟩=some (.map (some c))/\(Instr.lookup 89 (.map (some c)) (.int .i64 (ids i)) false).run prog W= .ok (.pointer (nb i)) W/\W.cell? ⟨nb i,1,none⟩=some (.slice ka (BF ids ups n i).length kc)):=hid (fun W v' l' hk=>by
   have N2:=HN.out.below hk.b;have LK:=N2.map.look (HW i hi);rw[Dy HR.out hi]at LK;exact⟨hk.q.c0 0 rfl,LK,by rw[<-KV.out];exact(N2.blk i hi).c0 1 rfl⟩)
  have hm:(BF ids ups n i).length<=271:=by have:=J5 ids ups n i;omega
  go_enter func102,ntmps102
  go_wp2_with(refine Ed _ rfl _ _ rfl (w0.heap.size+1+1+1) v l rfl O1 _ 1 1 [ids i] rfl rfl L1 (by omega) s1 ?_;intro a3 c3 w3 o3 g3 v3;have p3:=P1.out w3 g3;have z1:_=some v:=p3.c0 0 rfl;have z2:=p3.jC 0;have K2:=hid (D3.out a3 c3 w3 o3 g3);obtain⟨y0,LK,y1⟩:=E3.out _ _ _ K2.out;clear o3 g3 v3 p3)
  clear z1 z2 y0 LK y1 x1 L1 O1 P1 D3 E3 HK s1;generalize w3.setCell ⟨w0.heap.size+1,0,none⟩ (.slice a3 (l.length+1) c3)=W at *;generalize Value.slice a3 (l.length+1) c3=v2 at *;clear hs;have hml:(BF ids ups n i).length=(Du ids ups n i).length:=by rw[Ix,List.length_map]
  have HML:=hid hml;clear hml;go_loopw [18] (fun t wr=>∃(j:Nat) (v':Value),j<=(BF ids ups n i).length/\t= .int .i64 j/\Hid (Ly w0 c wr v' (l++[ids i]++(((Du ids ups n i).take j).flatMap (FR ids ups n f)).map ids))) (fun t _=>(BF ids ups n i).length-(intOf t).toNat)
  case atStart=>exact⟨0,v2,Nat.zero_le _,rfl,hid (by simpa using K2.out)⟩
  case round=>
   obtain⟨j,v',hj,rfl,HWk⟩:=hrel;clear K2;by_cases hlt:j<(BF ids ups n i).length
   ·have i1:(j:Int)<((BF ids ups n i).length:Int):=(by omega);have i0:(0:Int)<=(j:Int):=(by omega);have hj2:j<(Du ids ups n i).length:=(by have:=HML.out;omega);have ow:=(HN.out.below HWk.out.b).own i hi;rw[KV.out]at ow;obtain⟨b,o,rfl,_,hcc⟩:=Az.lies ow (by omega);have g1:wr.cell? ⟨b,o+j,none⟩=some (.int .i64 (ids (Du ids ups n i)[j])):=hcc j _ (by simp[Ix,hj2]);have r1:wr.cell? ⟨w0.heap.size+1+1,0,none⟩=some (M6 w0):=HWk.out.r.c0 0 rfl;unfold M6 at r1;obtain⟨k1,k2⟩:=(FM HR H0 hi).1 (List.getElem_mem hj2);have CK:=hid (IH.out (Du ids ups n i)[j] _ v' wr k1 (fun a m ha e=>by
     have:=HH.out a (m+1) ha (by rw[D4,e];exact k2);omega) (by
     have h1:=HL.out;have h2:=Yc (Du ids ups n i) (FR ids ups n f) j hj2;simp only[FR,List.length_cons]at h1;simp only[List.length_append,List.length_map,List.length_cons,List.length_nil];omega) HWk)
    have EX:Hid (l++[ids i]++(((Du ids ups n i).take j).flatMap (FR ids ups n f)).map ids++(FR ids ups n f (Du ids ups n i)[j]).map ids=l++[ids i]++(((Du ids ups n i).take (j+1)).flatMap (FR ids ups n f)).map ids):=hid (by
     rw[List.take_succ_eq_append_getElem hj2,List.flatMap_append,List.map_append];simp)
    generalize ids (Du ids ups n i)[j]=y at *;clear hcc ow k1 k2;go_wp2_with(go_at_call 102;refine CK.out.mono ?_;rintro e w4 ⟨v4,rfl,h4⟩;have H4:=hid h4;clear h4)
    have H5:=H4.out;rw[EX.out]at H5;exact⟨⟨j+1,v4,by omega,by go_num,hid H5⟩,by simp[intOf];omega⟩
   ·have e:j=(Du ids ups n i).length:=(by have:=HML.out;omega);have i1:¬(j:Int)<((BF ids ups n i).length:Int):=(by omega);have H5:=HWk.out;rw[e,List.take_length]at H5;have H6:Hid (Ly w0 c wr v' (l++(FR ids ups n (f+1) i).map ids)):=hid (by simpa[FR]using H5);clear H5 e HWk;go_wp2;exact bodyPost_end (v:= .tuple #[]) (by simp[results,Tryz.results102,go_sem]) rfl ⟨rfl,_,H6⟩
theorem VK(tmps:Array Value)(W:World)(P:Nat)(x y:Value)(h:Ah W P (.cells #[x,y] 30))(h2:tmps[2]? =some (.pointer P)):
 (results Tryz.f92 tmps).run prog W= .ok (.agg #[x,y]) W:=by
 obtain⟨z0,z1⟩:=h.two;simp[results,Tryz.results92,go_sem,h2,z0,z1]
theorem AL.madeAt(w:World)(B:Nat)(hb:B<=w.heap.size)(f g:Nat->Int):AL (w.alloc (.cells #[] 117)) B (.slice (w) 0 0) 0 f g:=World.ownsRow_made w #[] 0 hb (Nat.zero_le _) rfl
theorem AL.newL{w:World}{B n c:Nat}{a:Option Addr}{f g:Nat->Int}(h:AL w B (.slice a n c) n f g)(hn:n<=1048576):Au.new B w ⟨a,n,c,f,g⟩:=
 ⟨⟨by unfold maxLen;simp only;omega,h.cats⟩,fun h0=>Dt h h0⟩
theorem Cw(b:Int)(c:Au)(w:World)(hc:c.at w)(hn:c.n<=1048576):
 Calls prog 92 #[.agg #[.int .i64 b,c.val]] w fun e w'=>∃d:Au,e= .returned (.agg #[.int .i64 b,d.val])/\c.same d/\d.new w w'/\Below w w w':=by
 obtain⟨a,n,cap,f,g⟩:=c;unfold Au.val;simp only at hn ⊢;have n1:No (.cells #[.int .i64 0,.slice none 0 0] 30):=⟨⟩;have n2:No (.cells #[.int .i64 b,.slice a n cap] 30):=⟨⟩;have b0:Below w w ((w.alloc n2).alloc n1):=(Be w _).alloc (by simp) _;have A0:=(Ah.new w n2).alloc n1;have R0:Ah ((w.alloc n2).alloc n1) (w.heap.size+1) n1:=by
  have:=Ah.new (w.alloc n2) n1;simpa using this
 have T0:=hid (hc.below b0).2;simp only at T0;obtain⟨x0,x1⟩:=A0.two;clear hc;go_enter func92,ntmps92
 go_wp2;generalize hV:((w.alloc n2).alloc n1)=V at *;have n3:Nw (V.alloc (.cells #[] 117)):=⟨⟩;have bm:Below V V ((n3:World).drew):=Ay (Be V _);have n4:Nv (.slice (V) 0 0):=⟨⟩;have OM:Hid (AL ((n3:World).drew) w n4 0 f g):=hid (AL.madeAt V w b0.size f g);have TM:=hid (T0.out.below bm);have s1:w.heap.size<=((n3:World).drew).heap.size:=(Af b0 bm).size;have lm:n<=4194304:=by omega
 have R1:=hid (R0.below bm);have B1:=hid (Af b0 bm);obtain⟨y0,y1⟩:=(A0.alloc (.cells #[] 117)).two;have px:¬w.heap.size=V.heap.size:=by have:=A0.lt;omega
 have vlt:w.heap.size+1<V.heap.size:=R0.lt;have RG:Hid (∀w3:World,((n3:World).drew).grownBy w3 (some V)->Ah w3 (w.heap.size+1) n1):=hid (fun w3 g3=>R1.out.grown g3 (by simp;omega));have A1:=hid (A0.below bm);have AG:Hid (∀w3:World,((n3:World).drew).grownBy w3 (some V)->Ah w3 w n2):=hid (fun w3 g3=>A1.out.grown g3 (by simp;omega));clear hV bm A0 R0 T0;go_region_law(refine Hh _ (by rfl) _ _ (by rfl) w n4 f g (by rfl) OM a n cap f g (by rfl) TM lm s1 ?_;intro a3 c3 w3 o3 g3 v3;have O3:=hid o3;have G3:=hid g3;have RR:=hid (RG.out w3 g3);obtain⟨r0,r1⟩:=RR.out.two;have rf:=RR.out.jC;obtain⟨q0,q1⟩:=(AG w3 g3).two;clear o3 g3 v3)
 all_goals(
  have B3:Hid (Below w w w3):=hid (B1.out.trans (below_grown G3 B1.out.size (fun j hj=>by cases hj;show w.heap.size<=V.heap.size;omega)));have N3:=hid (O3.out.newL hn);clear G3 O3 OM TM RG x0 x1 y0 y1 q0 q1 AG A1;go_wp2;refine bodyPost_ret (VK _ _ (w.heap.size+1) (.int .i64 b) (.slice a3 n c3) ((RR.out.jB (i:=0) _).jB (i:=1) _) rfl) rfl ⟨⟨a3,n,c3,f,g⟩,rfl,⟨rfl,rfl,rfl⟩,?_,?_⟩
  ·refine N3.out.of (by simp) (fun q hq hn'=>?_);have q2:=N3.out.ne RR (by decide) q hq hn';iterate 2 rw[blk_setCell_other _ _ _ _ (by dsimp only;omega)]
  ·iterate 2 refine Below.setCell ?_ (by dsimp only;omega) _
   exact B3.out)
variable {w w':World}{a:Option Addr}{b n B lo hi:Nat}{row:Option Nat}{v:Value}{l:List Int}
theorem DG{a b:World}{P:Nat}(h:a.grownBy b (some P))(i:Nat)(v:Value):a.grownBy (b.setCell ⟨P,i,none⟩ v) (some P):=
 ⟨h.os,h.tape,h.output,by rw[nblk_setCell];exact h.size,fun j hj hne=>(blk_setCell_other _ _ _ _ (by dsimp only;intro e;exact hne (by rw[e]))).trans (h.block j hj hne)⟩
theorem Cr(a:World)(P:Nat):a.grownBy a (some P):=⟨rfl,rfl,rfl,Nat.le_refl _,fun _ _ _=>rfl⟩
def QP(w:World)(a:Option Addr)(b n:Nat):Prop:=0<n->a=some ⟨b,0,none⟩/\∃m F,n<=m/\w.rowIs b 2 m F
theorem QP.below(h:QP w a b n)(hb:Below w w w'):QP w' a b n:=fun h0=>by
 obtain⟨e,m,F,hm,hr⟩:=h h0;exact⟨e,m,F,hm,hr.of_block (hb.block b hr.lt)⟩
theorem QP.grown(h:QP w a b n)(hg:w.grownBy w' row)(hne:some b≠row):QP w' a b n:=fun h0=>by
 obtain⟨e,m,F,hm,hr⟩:=h h0;exact⟨e,m,F,hm,hr.of_block (hg.block b hr.lt hne)⟩
theorem QP.lt(h:QP w a b n)(h0:0<n):b<w.heap.size:=by
 obtain⟨_,m,F,_,hr⟩:=h h0;exact hr.lt
theorem Bj.grown{h:Nat->Int}(hc:Bj w a n h)(hr:QP w a b n)(hg:w.grownBy w' row)(hne:0<n->some b≠row):Bj w' a n h:=fun h0=>by
 obtain⟨b',off,e,hlt,hcc⟩:=hc h0;obtain⟨e2,m,F,hm,hrow⟩:=hr h0;have e3:=e.symm.trans e2;simp only[Option.some.injEq,Addr.mk.injEq]at e3;obtain⟨rfl,_,_⟩:=e3;refine⟨b',off,e,Nat.lt_of_lt_of_le hlt hg.size,fun i hi=>?_⟩;have hb:=hg.block b' hlt (hne h0);exact(by simp only[World.cell?];rw[hb]:w'.cell? ⟨b',off+i,none⟩=w.cell? ⟨b',off+i,none⟩).trans (hcc i hi)
theorem Az.of_block(h:Az w B v l)(hb:∀g,v.ownBlock=some g->w'.heap[g]? =w.heap[g]?):Az w' B v l:=by
 refine⟨h.1,?_⟩;rcases h.2 with hn|⟨g,cap,cur,rfl,h1,h2,rest⟩
 ·exact .inl hn
 ·exact .inr ⟨g,cap,cur,rfl,h1,(hb g rfl).trans h2,rest⟩
theorem Az.below(h:Az w B v l)(hb:Below w w w'):Az w' B v l:=h.of_block fun g hg=>hb.block g (World.ownsRow.lt h g hg).2
theorem Az.mk(h:Az w B v l)(hm:Mk lo hi w w')(hb:∀g,v.ownBlock=some g->g<lo∨hi<=g):Az w' B v l:=h.of_block fun g hg=>hm.block g (World.ownsRow.lt h g hg).2 (hb g hg)
theorem Mk.below{w0:World}(h0:Below w0 w0 w)(h:Mk lo hi w w')(hB:w0.heap.size<=lo):Below w0 w0 w':=
 ⟨h.os.trans h0.os,h.tape.trans h0.tape,h.output.trans h0.output,Nat.le_trans h0.size h.size,fun k hk=>(h.block k (Nat.lt_of_lt_of_le hk h0.size) (.inl (by omega))).trans (h0.block k hk)⟩
end Go.Proofs.YtefoofaocbjdoaaGreatDoor
