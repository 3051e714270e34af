import Derived.Test.YteoihknaljgocaaGreatDoorZ3m
set_option maxRecDepth 100000
set_option maxHeartbeats 8000000
namespace Go.Proofs.YteoihknaljgocaaGreatDoor
open Go Go.RowKit Go.Deep Go.Maps Go.Proofs.Tryz
variable {ids ups:Nat->Int}{q i n B:Nat}{w w':World}
def Bz(ids ups:Nat->Int)(q i:Nat):List Int:=((List.range q).filter (fun j=>ups j==ids i)).map ids
theorem Uu(h:ups q=ids i):Bz ids ups (q+1) i=Bz ids ups q i++[ids q]:=by
 simp[Bz,List.range_succ,h]
theorem P3(h:ups q≠ids i):Bz ids ups (q+1) i=Bz ids ups q i:=by
 simp[Bz,List.range_succ,h]
theorem Ix(ids ups:Nat->Int)(q i:Nat):(Bz ids ups q i).length<=q:=by
 unfold Bz;rw[List.length_map];exact Nat.le_trans (List.length_filter_le _ _) (by simp)
theorem GC.update{b:Nat}{m:Int->Option Nat}(h:GC w b n m)(hn:n<maxLen)(kx:Int)(p:Nat)(wk:(Lit.int .i64 kx).wf=true):
 ∃w',(Instr.mapUpdate 71 (.map (some b)) (.int .i64 kx) (.pointer p)).run prog w= .ok () w'/\GC w' b (n+1) (IR m kx p)/\w.grownBy w' (some b):=by
 obtain⟨D,hown,hD,hall⟩:=h;obtain⟨w',hrun,r1,r2⟩:=hown.update H9 underlying71 hn (keyOf_int_mk underlying2 wk) (val:= .pointer p) (d:= .lit (.int .i64 (p:Int))) (ps:=[]) rfl;have hp:=GC.put (k:=kx) (v:=p) hD hall;exact⟨w',hrun,⟨_,r1,hp.1,hp.2⟩,r2⟩
theorem AF(h:Below w.heap.size w w'):Below w.heap.size w w'.drew:=below_drewN h 1
theorem below_grown{row:Option Nat}(h:w.grownBy w' row)(hB:B<=w.heap.size)(hr:∀j,row=some j->B<=j):Below B w w':=
 ⟨h.os,h.tape,h.output,h.size,fun k hk=>h.block k (by omega) (fun e=>by have:=hr k e.symm;omega)⟩
theorem Mz{ops:Array Oper}{o:Oper}{a:Act}{w:World}{K:Act->World->Prop}{Q:Exit->Act->World->Prop}{E:Prop}(hgd:o.guard=none)(s x:Operand)
 (ho:o.op= .call {callee:= .builtin .append,args:=#[s,x],argTypes:=#[37,37]})
 (B:Nat)(v:Value)(l:List Int)(hs:a.eval s=v)(hown:Ay w B v l)(ad:Option Addr)(c:Nat)(r:Int)(hx:a.eval x= .slice ad 1 c)(hc:DD w ad [r])
 (hm:l.length<=100000)(hB:B<=w.heap.size)
 (h:∀a' c' w',Ay w' B (.slice a' (l.length+1) c') (l++[r])->w.grownBy w' v.ownBlock->((Value.slice a' (l.length+1) c').ownBlock=v.ownBlock∨(Value.slice a' (l.length+1) c').ownBlock=some w.heap.size)->K (a.put o.dst (.slice a' (l.length+1) c')) w'):
 if Region.wanted o (yielded ops a.tmps)=true then Oper.wp prog o a w K Q else E:=by
 have hw:Region.wanted o (yielded ops a.tmps)=true:=by simp[Region.wanted,hgd]
 rw[if_pos hw];refine Dw underlying37 Tryz.info2 rfl (by omega) w s x ho B v l.length _ hs hown ad 1 c [.int .i64 r] hx rfl hc (by simp[Value.oneCell']) (by omega) (by omega) hB fun a' c' w' h2 h3 h4=>?_;refine h a' c' w' ?_ h3 h4;unfold Ay;rw[List.length_append,List.map_append];exact h2
theorem Eb.same{c:Nat}{ob off:Nat}{nb:Nat->Nat}{kv:Nat->Value}{K K':Nat->List Int}(h:Eb w B c n ids ob off nb kv K)(e:∀i,i<n->K' i=K i):Eb w B c n ids ob off nb kv K':=
 ⟨h.map,h.blk,h.inj,fun i hi=>by rw[e i hi];exact h.own i hi,h.apart,h.low,h.lowc⟩
theorem Eb.grow{wr W w1:World}{B c k:Nat}{ids:Nat->Int}{ob off:Nat}{nb:Nat->Nat}(H:Eb wr B c k ids ob off nb (fun _=> .slice none 0 0) (fun _=>[]))(hr:Du ids (k+1))(hb:Below wr.heap.size wr W)
 (hA:Ag W wr.heap.size (.cells #[.pointer (some ⟨ob,off+k*10,none⟩),.slice none 0 0] 76))(hM:GC w1 c (k+1) (IR (fun x=>(Bg ids k x).map nb) (ids k) wr.heap.size))(hG:W.grownBy w1 (some c)):
 Eb w1 B c (k+1) ids ob off (fun i=>if i=k then wr.heap.size else nb i) (fun _=> .slice none 0 0) (fun _=>[]):=by
 have hc:c<wr.heap.size:=H.map.lt;have cne:∀i,i<k->c≠nb i:=fun i hi e=>by
  obtain⟨es,clock,hm⟩:=H.map.isMap;have:=H.blk i hi;unfold Ag at this;rw[<-e,hm]at this;cases this
 refine⟨?_,fun i hi=>?_,fun i j hi hj=>?_,fun i hi=>Ay.nil _ _,fun i j _ _ _=> .inl rfl,fun i hi=>?_,H.lowc⟩
 ·have e:(fun x=>(Bg ids (k+1) x).map (fun i=>if i=k then wr.heap.size else nb i))=IR (fun x=>(Bg ids k x).map nb) (ids k) wr.heap.size:=by
   funext x;rw[TV hr];unfold IR;split
   ·simp
   ·cases e1:Bg ids k x with
    |none=>simp[e1]
    |some j=>
     have:=(Av e1).1;simp only[Option.map_some,e1];rw[if_neg (by omega)]
  rw[e];exact hM
 ·by_cases e:i=k
  ·subst e;rw[if_pos rfl];exact(hG.block _ hA.lt (by simp;omega)).trans hA
  ·rw[if_neg e];have h1:=(H.blk i (by omega)).below hb;exact(hG.block _ h1.lt (by simp;exact fun e=>cne i (by omega) e.symm)).trans h1
 ·have lt:∀i,i<k->nb i<wr.heap.size:=fun i hi=>(H.blk i hi).lt;by_cases e:i=k
  ·by_cases e':j=k
   ·omega
   ·rw[if_pos e,if_neg e'];have:=lt j (by omega);omega
  ·by_cases e':j=k
   ·rw[if_neg e,if_pos e'];have:=lt i (by omega);omega
   ·rw[if_neg e,if_neg e'];exact H.inj i j (by omega) (by omega)
 ·split
  ·have:=H.lowc;omega
  ·exact H.low i (by omega)
theorem Hm(ob off n cap:Nat)(O:Nat->Ab)(w:World)(hn:n<=271)(hO:Hz w (some ⟨ob,off,none⟩) n O)(hr:Du (fun i=>(O i).id) n)
 (hw:∀i,i<n->(Lit.int .i64 (O i).id).wf=true/\(Lit.int .i64 (O i).up).wf=true):
 Calls prog 27 #[.slice (some ⟨ob,off,none⟩) n cap] w fun e w'=>∃c nb kv,e= .returned (.map (some c))/\Eb w' w.heap.size c n (fun i=>(O i).id) ob off nb kv (Bz (fun i=>(O i).id) (fun i=>(O i).up) n)/\Below w.heap.size w w':=by
 have hmm:=@run_makeMap prog;have HO:=hid hO;have HR:=hid hr;have HW:=hid hw;clear hO hr hw;have M0:=hid (GC.made w);have hb0:=Bf w (.map #[] 0);go_enter func27,ntmps27
 go_wp2;go_loopw [11] (fun i wr=>∃(k:Nat) (nb:Nat->Nat),k<=n/\i= .int .i64 k/\Hid (Eb wr w.heap.size w.heap.size k (fun i=>(O i).id) ob off nb (fun _=> .slice none 0 0) (fun _=>[]))/\Below w.heap.size w wr) (fun i _=>n-(intOf i).toNat)
 case atStart=>
  refine⟨0,fun _=>0,Nat.zero_le _,rfl,hid ⟨?_,fun i hi=>by omega,fun i j hi=>by omega,fun i hi=>by omega,fun i j hi=>by omega,fun i hi=>by omega,Nat.le_refl _⟩,hb0⟩;exact M0.out
 case round=>
  obtain⟨k,nb,hk,rfl,HN,hB⟩:=hrel;clear M0 hb0 hmm;by_cases hlt:k<n
  ·obtain⟨_,_,ea,hlt0,hcc⟩:=HO.out.below hB (by omega);cases ea;have q0:=(hcc k hlt).1.c0;have i1:(k:Int)<(n:Int):=(by omega);have i0:(0:Int)<=(k:Int):=(by omega);have W0:=hid (HW.out k hlt).1;clear hcc;go_wp2;have kn:k<maxLen:=(by unfold maxLen;omega);have n3:No (.cells #[.pointer (some ⟨ob,off+k*10,none⟩),.slice none 0 0] 76):=⟨⟩;have b1:Below wr.heap.size wr ((wr.alloc n3).drew):=AF (Bf wr _);have A1:Ag ((wr.alloc n3).drew) wr.heap.size n3:=Ag.new wr _;obtain⟨w1,hrun,hm1,hg1⟩:=(HN.out.map.below b1).update kn (O k).id wr.heap.size W0.out;have HM:=hid hm1;have HG:=hid hg1;have HB:=hid b1;have HA:=hid A1;clear hm1 hg1 b1 A1;go_region;have NN:=hid (HN.out.grow (HR.out.less (by omega)) HB.out HA.out HM.out HG.out);have B1:Below w.heap.size w w1:=(Af hB HB.out).trans (below_grown HG.out (Af hB HB.out).size (fun j hj=>by cases hj;exact Nat.le_refl _));clear HM HG HB HA hrun HN q0;go_wp2;exact⟨⟨k+1,_,by omega,by go_num,NN,B1⟩,by simp[intOf];omega⟩
  ·have e:k=n:=(by omega);subst e;have i1:¬(k:Int)<(k:Int):=(by omega);go_wp2;go_loopw [28] (fun i wr=>∃(q:Nat) (kv:Nat->Value),q<=k/\i= .int .i64 q/\Hid (Eb wr w.heap.size w.heap.size k (fun i=>(O i).id) ob off nb kv (Bz (fun i=>(O i).id) (fun i=>(O i).up) q))/\Below w.heap.size w wr) (fun i _=>k-(intOf i).toNat)
   case atStart=>exact⟨0,_,Nat.zero_le _,rfl,HN,hB⟩
   case round=>
    obtain⟨q,kv,hq,rfl,HN,hB⟩:=hrel;by_cases hlt:q<k
    ·obtain⟨_,_,ea,hlt0,hcc⟩:=HO.out.below hB (by omega);cases ea;obtain⟨q0,q1,q2,q3,q4,q5,q6,q7,q8,q9⟩:=(hcc q hlt).1;simp only[Ar.val,AJ.val,AH.val]at q4 q6 q7 q9;have i1:(q:Int)<(k:Int):=(by omega);have b1:Below wr.heap.size wr (wr.alloc (.cells (O q) 44)):=Bf wr _;have n1:No (.cells (O q) 44):=⟨⟩;have A1:=Ag.new wr n1;have x0:_=some (Value.int .i64 (O q).id):=A1.c0 0 rfl;have x2:_=some (Value.int .i64 (O q).up):=A1.c0 2 rfl;have N1:=hid (HN.out.below b1);have B1:=Af hB b1;have LK:=N1.out.map.look (x:=(O q).up) (HW.out q hlt).2;clear hcc hlt0;cases hf:Bg (fun i=>(O i).id) k (O q).up with
     |none=>
      have NK:Hid (∀i,i<k->Bz (fun i=>(O i).id) (fun i=>(O i).up) (q+1) i=Bz (fun i=>(O i).id) (fun i=>(O i).up) q i):=hid (fun i hi=>P3 (fun e=>GQ hf i hi e.symm));simp only[hf,Option.map_none]at LK;clear hf;go_wp2;exact⟨⟨q+1,kv,by omega,by go_num,hid (N1.out.same NK.out),B1⟩,by simp[intOf];omega⟩
     |some u=>
      obtain⟨hu,eu⟩:=Av hf;have EU:=hid eu;simp only[hf,Option.map_some]at LK;clear hf eu;have A2:=N1.out.blk u hu;have O2:=N1.out.own u hu;have hlen:=Ix (fun i=>(O i).id) (fun i=>(O i).up) q u;go_wp2;generalize wr.alloc n1=W at *;have y1:_=some (kv u):=A2.c0 1 rfl;have n2:Nw (W.alloc (.cells #[.int .i64 (O q).id] 2)):=⟨⟩;have bl:Below W.heap.size W ((n2:World).drew):=AF (Bf W _);have N2:=hid (N1.out.below bl);have l1:DD ((n2:World).drew) (some ⟨W.heap.size,0,none⟩) [(O q).id]:=DD.one (O q).id;have hB2:=Af B1 bl;have OA:=hid (N2.out.own u hu);have HL:=hid l1;have lm:(Bz (fun i=>(O i).id) (fun i=>(O i).up) q u).length<=100000:=(by omega);have s1:=hB2.size;have A3:Hid (∀w3:World,((n2:World).drew).grownBy w3 (kv u).ownBlock->Ag w3 (nb u) (.cells #[.pointer (some ⟨ob,off+u*10,none⟩),kv u] 76)):=hid (fun w3 g3=>(g3.block (nb u) (N2.out.blk u hu).lt (Tg (N2.out.own u hu) (N2.out.blk u hu) (by omega))).trans (N2.out.blk u hu));have FIN:Hid (∀(a3:Option Addr) (c3:Nat) (w3:World),Ay w3 w.heap.size (.slice a3 ((Bz (fun i=>(O i).id) (fun i=>(O i).up) q u).length+1) c3) (Bz (fun i=>(O i).id) (fun i=>(O i).up) q u++[(O q).id])->((n2:World).drew).grownBy w3 (kv u).ownBlock->((Value.slice a3 ((Bz (fun i=>(O i).id) (fun i=>(O i).up) q u).length+1) c3).ownBlock=(kv u).ownBlock∨(Value.slice a3 ((Bz (fun i=>(O i).id) (fun i=>(O i).up) q u).length+1) c3).ownBlock=some ((n2:World).drew).heap.size)->
       ∃kv',Hid (Eb (w3.setCell ⟨nb u,1,none⟩ (.slice a3 ((Bz (fun i=>(O i).id) (fun i=>(O i).up) q u).length+1) c3)) w.heap.size w.heap.size k (fun i=>(O i).id) ob off nb kv' (Bz (fun i=>(O i).id) (fun i=>(O i).up) (q+1)))/\Below w.heap.size w (w3.setCell ⟨nb u,1,none⟩ (.slice a3 ((Bz (fun i=>(O i).id) (fun i=>(O i).up) q u).length+1) c3))):=hid (fun a3 c3 w3 ho g3 v3=>by
       refine⟨_,hid ((N2.out.step hu ho g3 v3).same (fun i hi=>?_)),?_⟩
       ·split
        ·rename_i e;subst e;exact Uu EU.out.symm
        ·rename_i e;exact P3 (fun e'=>e (HR.out.inj hi hu (by rw[<-e'];exact EU.out.symm)))
       ·exact(hB2.trans (below_grown g3 hB2.size (fun j hj=>(World.ownsRow.lt (N2.out.own u hu) j hj).1))).setCell (N1.out.low u hu) _)
      have y1a:(n2:World).cell? ⟨nb u,1,none⟩=some (kv u):=((Bf W _).cell (p:=⟨nb u,1,none⟩) A2.lt).trans y1;have un:¬nb u=W.heap.size:=(by have:=A2.lt;omega);have pn:¬wr.heap.size=W.heap.size:=(by have:=A1.lt;omega);clear l1 bl b1 q0 q1 q2 q3 q4 q5 q6 q7 q8 q9 hlen A1 A2 O2 LK hB2;go_region_law((refine Mz (by rfl) _ _ (by rfl) w.heap.size (kv u) (Bz (fun i=>(O i).id) (fun i=>(O i).up) q u) (by rfl) OA.out _ 1 (O q).id (by rfl) HL.out lm s1 ?_;intro a3 c3 w3 O3 g3 v3;have Z:=hid (A3.out w3 g3);have z1:_=some (kv u):=Z.out.c0 1 rfl;have z2:=Z.out.jC 1;have O4:=hid O3;have G4:=hid g3;have V4:=hid v3;clear O3 g3 v3))
      all_goals(
       obtain⟨kv',nn,bb⟩:=FIN.out _ _ _ O4.out G4.out V4.out;clear FIN O4 G4 V4 Z z1 z2 A3 OA HL N2 N1 HN;go_wp2;exact⟨⟨q+1,kv',by omega,by go_num,nn,bb⟩,by simp[intOf];omega⟩)
    ·have e:q=k:=(by omega);subst e;have i1:¬(q:Int)<(q:Int):=(by omega);go_wp2;go_ret;exact⟨_,rfl,⟨_,_,HN.out⟩,hB⟩
section
variable {t e size bytes:Nat}{z:Value} (hT:prog.underlying t=some (.slice e)) (hI:(prog.info? e).map (fun i=>(i.zero,i.size,i.bytes))=some (some z,size,bytes)) (hzs:z.cells.size=size) (hsz:0<size)
include hT hI hzs hsz
theorem Bs{ops:Array Oper}{rest:List Oper}{o:Oper}{a:Act}{Q:Exit->Act->World->Prop}(w:World)(hgd:o.guard=none)(s x:Operand)
 (ho:o.op= .call {callee:= .builtin .append,args:=#[s,x],argTypes:=#[t,t]})
 (B:Nat)(v:Value)(n:Nat)(cs:List Value)(hs:a.eval s=v)(hown:w.ownsRow B e size v n cs)(ad:Option Addr)(m c:Nat)(cs':List Value)(hx:a.eval x= .slice ad m c)(hl:cs'.length=m*size)(hc:Bp w ad m cs')(h1:∀u∈cs',u.oneCell'=true)
 (hm:n+m<=4194304)(hby:(n+m)*bytes<=140737488355328)(hB:B<=w.heap.size)
 (h:∀a' c' w',w'.ownsRow B e size (.slice a' (n+m) c') (n+m) (cs++cs')->w.grownBy w' v.ownBlock->wpList prog ops Q rest (a.put o.dst (.slice a' (n+m) c')) w'):wpList prog ops Q (o::rest) a w:=
 wpList_plain hgd fun _ hK=>Dw hT hI hzs hsz w s x ho B v n cs hs hown ad m c cs' hx hl hc h1 hm hby hB fun a' c' w' h2 h3 _=>hK _ _ (h a' c' w' h2 h3)
end
def Ar.new(B:Nat)(w:World)(c:Ar):Prop:=c.at w/\(0<c.n->∃b m F,c.a=some ⟨b,0,none⟩/\B<=b/\c.n*2<=m/\w.rowIs b 78 m F)
def AJ.new(B:Nat)(w:World)(c:AJ):Prop:=c.at w/\(0<c.n->∃b m F,c.a=some ⟨b,0,none⟩/\B<=b/\c.n<=m/\w.rowIs b 2 m F)
def AH.new(B:Nat)(w:World)(c:AH):Prop:=c.at w/\(0<c.n->∃b m F,c.a=some ⟨b,0,none⟩/\B<=b/\(c.n<=m/\m=c.k)/\w.rowIs b 9 m F)
theorem Ar.new.below{B:Nat}{w w':World}{c:Ar}(h:c.new B w)(hb:Below w w w'):c.new B w':=⟨h.1.below hb,fun hn=>by
 obtain⟨b,m,F,e,h1,h2,h3⟩:=h.2 hn;exact⟨b,m,F,e,h1,h2,Mq h3 hb⟩⟩
theorem AJ.new.below{B:Nat}{w w':World}{c:AJ}(h:c.new B w)(hb:Below w w w'):c.new B w':=⟨h.1.below hb,fun hn=>by
 obtain⟨b,m,F,e,h1,h2,h3⟩:=h.2 hn;exact⟨b,m,F,e,h1,h2,Mq h3 hb⟩⟩
theorem AH.new.below{B:Nat}{w w':World}{c:AH}(h:c.new B w)(hb:Below w w w'):c.new B w':=⟨h.1.below hb,fun hn=>by
 obtain⟨b,m,F,e,h1,h2,h3⟩:=h.2 hn;exact⟨b,m,F,e,h1,h2,Mq h3 hb⟩⟩
theorem Ar.new.low{B B':Nat}{w:World}{c:Ar}(h:c.new B w)(hB:B'<=B):c.new B' w:=⟨h.1,fun hn=>by
 obtain⟨b,m,F,e,h1,h2,h3⟩:=h.2 hn;exact⟨b,m,F,e,by omega,h2,h3⟩⟩
theorem AJ.new.low{B B':Nat}{w:World}{c:AJ}(h:c.new B w)(hB:B'<=B):c.new B' w:=⟨h.1,fun hn=>by
 obtain⟨b,m,F,e,h1,h2,h3⟩:=h.2 hn;exact⟨b,m,F,e,by omega,h2,h3⟩⟩
theorem AH.new.low{B B':Nat}{w:World}{c:AH}(h:c.new B w)(hB:B'<=B):c.new B' w:=⟨h.1,fun hn=>by
 obtain⟨b,m,F,e,h1,h2,h3⟩:=h.2 hn;exact⟨b,m,F,e,by omega,h2,h3⟩⟩
theorem Dl{w:World}{B e size n c:Nat}{a:Option Addr}{cs:List Value}(h:w.ownsRow B e size (.slice a n c) n cs)(hn:0<n):∃b m F,a=some ⟨b,0,none⟩/\B<=b/\n*size<=m/\w.rowIs b e m F:=by
 rcases h.2 with⟨_,h0⟩|⟨g,cap,cur,hv,h1,h2,h3,h4,h5,h6⟩
 ·omega
 ·simp only[Value.slice.injEq]at hv;obtain⟨rfl,_,rfl⟩:=hv;exact⟨g,cur.size,fun i=>cur[i]?.getD undef,rfl,h1,by rw[h5];exact Nat.mul_le_mul_right _ h3,⟨cur,h2,rfl,fun i hi=>by simp[hi]⟩⟩
theorem Jg{w:World}{B e n c:Nat}{a:Option Addr}{cs:List Value}(h:w.ownsRow B e 1 (.slice a n c) n cs)(hn:0<n):∃b m F,a=some ⟨b,0,none⟩/\B<=b/\(n<=m/\m=c)/\w.rowIs b e m F:=by
 rcases h.2 with⟨_,h0⟩|⟨g,cap,cur,hv,h1,h2,h3,h4,h5,h6⟩
 ·omega
 ·simp only[Value.slice.injEq]at hv;obtain⟨rfl,_,rfl⟩:=hv;exact⟨g,cur.size,fun i=>cur[i]?.getD undef,rfl,h1,⟨by rw[h5];omega,by rw[h5];omega⟩,⟨cur,h2,rfl,fun i hi=>by simp[hi]⟩⟩
theorem Vv{w:World}{a:Option Addr}{n:Nat}{f g:Nat->Int}(h:AX w a n f g):Bp w a n (Cf f g n):=fun hn=>by
 obtain⟨b,off,e,hlt,hc⟩:=h hn;refine⟨b,off,e,hlt,fun j u hu=>?_⟩;by_cases hj:j<n*2
 ·rw[Dv _ _ _ _ hj]at hu;have hu':=Option.some.inj hu;rw[<-hu'];obtain⟨c0,c1⟩:=hc (j/2) (by omega);unfold Dm;by_cases e2:j%2=0
  ·rw[if_pos e2,<-c0];congr 2;omega
  ·rw[if_neg e2,<-c1];congr 2;omega
 ·rw[List.getElem?_eq_none (by rw[Cw];omega)]at hu;cases hu
theorem JB{w:World}{a:Option Addr}{n:Nat}{f:Nat->ByteArray}(h:Jn w a n f):Bp w a n ((List.range n).map (fun i=>Value.string (f i))):=fun hn=>by
 obtain⟨b,off,e,hlt,hc⟩:=h hn;refine⟨b,off,e,hlt,fun j u hu=>?_⟩;by_cases hj:j<n
 ·simp[hj]at hu;rw[<-hu];exact hc j hj
 ·simp[hj]at hu
theorem Ot(c:Ar)(w:World)(hc:c.at w)(hn:c.n<=1048576):
 Calls prog 114 #[c.val] w fun e w'=>∃d:Ar,e= .returned d.val/\c.same d/\d.new w w'/\Below w w w':=by
 obtain⟨a,n,cap,f,g⟩:=c;obtain⟨hm,hc⟩:=hc;unfold Ar.val;simp only at hm hc hn ⊢;have L:=hid (Vv hc);clear hc;go_enter func114,ntmps114
 go_wp2_with(refine Bs underlying28 Tryz.info78 rfl (by omega) _ rfl _ _ rfl w (.slice none 0 0) 0 [] rfl (World.ownsRow_nil _ _ _ _) a n cap (Cf f g n) rfl (by simp[Cf]) L (Kj f g n) (by omega) (by omega) nr ?_;intro a3 c3 w3 o3 g3;rw[Nat.zero_add,List.nil_append]at o3;rw[Nat.zero_add])
 go_ret;have hr:AM w3 w (.slice a3 n c3) n f g:=o3;exact⟨⟨a3,n,c3,f,g⟩,rfl,⟨rfl,rfl,rfl⟩,⟨⟨hm,hr.cats⟩,fun h0=>Dl o3 h0⟩,below_grown g3 nr (fun j hj=>by cases hj)⟩
theorem JU(c:AJ)(w:World)(hc:c.at w)(hn:c.n<=1048576):
 Calls prog 70 #[c.val] w fun e w'=>∃d:AJ,e= .returned d.val/\c.same d/\d.new w w'/\Below w w w':=by
 obtain⟨a,n,cap,f⟩:=c;obtain⟨hm,hc⟩:=hc;unfold AJ.val;simp only at hm hc hn ⊢;have L0:=hc.intL;have el:((List.range n).map f).length=n:=by simp
 have L:Hid (Bp w a n (((List.range n).map f).map (Value.int .i64))):=hid (by unfold DD at L0;rw[el]at L0;exact L0);clear hc L0;go_enter func70,ntmps70
 go_wp2_with(refine Bs underlying37 Tryz.info2 rfl (by omega) _ rfl _ _ rfl w (.slice none 0 0) 0 [] rfl (World.ownsRow_nil _ _ _ _) a n cap (((List.range n).map f).map (Value.int .i64)) rfl (by simp) L (fun u hu=>by obtain⟨y,_,rfl⟩:=List.mem_map.1 hu;rfl) (by omega) (by omega) nr ?_;intro a3 c3 w3 o3 g3;rw[Nat.zero_add,List.nil_append]at o3;rw[Nat.zero_add])
 go_ret;have ho:Ay w3 w (.slice a3 ((List.range n).map f).length c3) ((List.range n).map f):=by unfold Ay;rw[el];exact o3
 have hi:Be w3 a3 n f:=fun h0=>by
  obtain⟨b,off,e,hlt,hcc⟩:=(Ay.lies ho).ints (by rw[el];exact h0);refine⟨b,off,e,hlt,fun i hi=>?_⟩;have:=hcc i (by rw[el];exact hi);rw[this];simp[AV,hi]
 exact⟨⟨a3,n,c3,f⟩,rfl,⟨rfl,rfl⟩,⟨⟨hm,hi⟩,fun h0=>by have:=Dl o3 h0;simpa using this⟩,below_grown g3 nr (fun j hj=>by cases hj)⟩
variable {B P t:Nat}{w w':World}{c:Ar}
theorem OY(c:AH)(w:World)(hc:c.at w)(hn:c.n<=1048576):
 Calls prog 71 #[c.val] w fun e w'=>∃d:AH,e= .returned d.val/\c.same d/\d.new w w'/\Below w w w':=by
 obtain⟨a,n,cap,f⟩:=c;obtain⟨hm,hc,hz⟩:=hc;unfold AH.val;simp only at hm hc hn hz ⊢;have L:=hid (JB hc);have HZ:=hid hz;clear hc hz;go_enter func71,ntmps71
 go_wp2_with(refine Bs underlying42 Tryz.info9 rfl (by omega) _ rfl _ _ rfl w (.slice none 0 0) 0 [] rfl (World.ownsRow_nil _ _ _ _) a n cap ((List.range n).map (fun i=>Value.string (f i))) rfl (by simp) L (fun u hu=>by obtain⟨y,_,rfl⟩:=List.mem_map.1 hu;rfl) (by omega) (by omega) nr ?_;intro a3 c3 w3 o3 g3;rw[Nat.zero_add,List.nil_append]at o3;rw[Nat.zero_add])
 go_ret;have hi:Jn w3 a3 n f:=fun h0=>by
  obtain⟨b,off,e,hlt,hcc⟩:=Bp.own o3 h0;exact⟨b,off,e,hlt,fun i hi=>hcc i _ (by simp[hi])⟩
 exact⟨⟨a3,n,c3,f⟩,rfl,⟨rfl,rfl⟩,⟨⟨hm,hi,HZ⟩,fun h0=>Jg o3 h0⟩,below_grown g3 nr (fun j hj=>by cases hj)⟩
theorem Ar.new.of(h:c.new B w)(hs:w.heap.size<=w'.heap.size)(hb:∀b,c.a=some ⟨b,0,none⟩->0<c.n->w'.heap[b]? =w.heap[b]?):c.new B w':=
 ⟨⟨h.1.1,fun hn=>by
   obtain⟨b,off,e,hlt,hc⟩:=h.1.2 hn;obtain⟨b',_,_,e',_⟩:=h.2 hn;have eb:=e.symm.trans e';cases eb;have ce:∀o,w'.cell? ⟨b,o,none⟩=w.cell? ⟨b,o,none⟩:=fun o=>World.cell?_of_block (a:=⟨b,o,none⟩) (hb b e' hn);exact⟨b,0,e,Nat.lt_of_lt_of_le hlt hs,fun i hi=>by rw[ce,ce];exact hc i hi⟩⟩,fun hn=>by
   obtain⟨b,m,F,e,h1,h2,h3⟩:=h.2 hn;exact⟨b,m,F,e,h1,h2,h3.of_block (hb b e hn)⟩⟩
theorem Ar.new.ne(h:c.new B w){cs:Array Value}(hP:Ag w P (.cells cs t))(ht:t≠78):∀b,c.a=some ⟨b,0,none⟩->0<c.n->b≠P:=fun b e hn=>by
 obtain⟨b',m,F,e',_,_,h3⟩:=h.2 hn;rw[e]at e';cases e';exact Fj h3 hP.row (fun e=>ht e.symm)
theorem AJ.new.of{c:AJ}(h:c.new B w)(hs:w.heap.size<=w'.heap.size)(hb:∀b,c.a=some ⟨b,0,none⟩->0<c.n->w'.heap[b]? =w.heap[b]?):c.new B w':=
 ⟨⟨h.1.1,fun hn=>by
   obtain⟨b,off,e,hlt,hc⟩:=h.1.2 hn;obtain⟨b',_,_,e',_⟩:=h.2 hn;have eb:=e.symm.trans e';cases eb;have ce:∀o,w'.cell? ⟨b,o,none⟩=w.cell? ⟨b,o,none⟩:=fun o=>World.cell?_of_block (a:=⟨b,o,none⟩) (hb b e' hn);exact⟨b,0,e,Nat.lt_of_lt_of_le hlt hs,fun i hi=>by rw[ce];exact hc i hi⟩⟩,fun hn=>by
   obtain⟨b,m,F,e,h1,h2,h3⟩:=h.2 hn;exact⟨b,m,F,e,h1,h2,h3.of_block (hb b e hn)⟩⟩
theorem AJ.new.ne{c:AJ}(h:c.new B w){cs:Array Value}(hP:Ag w P (.cells cs t))(ht:t≠2):∀b,c.a=some ⟨b,0,none⟩->0<c.n->b≠P:=fun b e hn=>by
 obtain⟨b',m,F,e',_,_,h3⟩:=h.2 hn;rw[e]at e';cases e';exact Fj h3 hP.row (fun e=>ht e.symm)
theorem AH.new.of{c:AH}(h:c.new B w)(hs:w.heap.size<=w'.heap.size)(hb:∀b,c.a=some ⟨b,0,none⟩->0<c.n->w'.heap[b]? =w.heap[b]?):c.new B w':=
 ⟨⟨h.1.1,fun hn=>by
   obtain⟨b,off,e,hlt,hc⟩:=h.1.2.1 hn;obtain⟨b',_,_,e',_⟩:=h.2 hn;have eb:=e.symm.trans e';cases eb;have ce:∀o,w'.cell? ⟨b,o,none⟩=w.cell? ⟨b,o,none⟩:=fun o=>World.cell?_of_block (a:=⟨b,o,none⟩) (hb b e' hn);exact⟨b,0,e,Nat.lt_of_lt_of_le hlt hs,fun i hi=>by rw[ce];exact hc i hi⟩,h.1.2.2⟩,fun hn=>by
   obtain⟨b,m,F,e,h1,h2,h3⟩:=h.2 hn;exact⟨b,m,F,e,h1,h2,h3.of_block (hb b e hn)⟩⟩
theorem AH.new.ne{c:AH}(h:c.new B w){cs:Array Value}(hP:Ag w P (.cells cs t))(ht:t≠9):∀b,c.a=some ⟨b,0,none⟩->0<c.n->b≠P:=fun b e hn=>by
 obtain⟨b',m,F,e',_,_,h3⟩:=h.2 hn;rw[e]at e';cases e';exact Fj h3 hP.row (fun e=>ht e.symm)
theorem Wt(tmps:Array Value)(W:World)(P:Nat)(x y:Value)(h:Ag W P (.cells #[x,y] 30))(h2:tmps[2]? =some (.pointer P)):
 (results Tryz.f69 tmps).run prog W= .ok (.agg #[x,y]) W:=by
 obtain⟨z0,z1⟩:=h.two;simp[results,Tryz.results69,go_sem,h2,z0,z1]
theorem AW(b:Int)(c:Ar)(w:World)(hc:c.at w)(hn:c.n<=1048576):
 Calls prog 69 #[.agg #[.int .i64 b,c.val]] w fun e w'=>∃d:Ar,e= .returned (.agg #[.int .i64 b,d.val])/\c.same d/\d.new w w'/\Below w w w':=by
 have n3:No (.cells #[.int .i64 0,.slice none 0 0] 30):=⟨⟩;have n4:No (.cells #[.int .i64 b,c.val] 30):=⟨⟩;have b0:Below w w ((w.alloc n4).alloc n3):=(Bf w _).alloc (by simp) _;have A0:=(Ag.new w n4).alloc n3;have R0:Ag ((w.alloc n4).alloc n3) (w.heap.size+1) n3:=by
  have:=Ag.new (w.alloc n4) n3;simpa using this
 have C1:=hid (Ot c _ (hc.below b0) hn);obtain⟨x0,x1⟩:=A0.two;clear hc;go_enter func69,ntmps69
 go_wp2_with fail
 refine C1.out.mono ?_;rintro e w1 ⟨d,rfl,hs,hd,hb1⟩;have A1:=A0.below hb1;have R1:=R0.below hb1;have B1:=Af b0 hb1;have HD:=hid (hd.low b0.size);have HS:=hid hs;obtain⟨x0',x1'⟩:=A1.two;obtain⟨y0,y1⟩:=R1.two;have xf:=A1.jC;have yf:=R1.jC;have ne1:¬w.heap.size=w.heap.size+1:=by omega
 have ne2:¬w.heap.size+1=w.heap.size:=by omega
 clear hs hd C1 x0 x1 A0 R0 b0 hb1;unfold Ar.val at x1' ⊢;go_wp2;refine bodyPost_ret (Wt _ _ (w.heap.size+1) (.int .i64 b) (.slice d.a d.n d.k) (((R1.other (Q:=w.heap.size) (i:=1) (by omega) _).jB (i:=0) _).jB (i:=1) _) rfl) rfl ⟨d,rfl,HS,?_,?_⟩
 ·refine HD.out.of (by simp) (fun g hg hn'=>?_);have n1:=HD.out.ne A1 (by decide) g hg hn';have n2:=HD.out.ne R1 (by decide) g hg hn';rw[blk_setCell_other _ _ _ _ (by dsimp only;omega),blk_setCell_other _ _ _ _ (by dsimp only;omega),blk_setCell_other _ _ _ _ (by dsimp only;omega)]
 ·exact((B1.setCell (by dsimp only;omega) _).setCell (by dsimp only;omega) _).setCell (by dsimp only;omega) _
open Go.BigFrame Go.Shelf
variable {W:World}{P t:Nat}
theorem Dk{ops:Array Oper}{o:Oper}{a:Act}{w:World}{K:Act->World->Prop}{Q:Exit->Act->World->Prop}{E:Prop}(hgd:o.guard=none)(f:Nat)(x:Operand)(ats:Array TypeId)
 (ho:o.op= .call {callee:= .value (.func f),args:=#[x],argTypes:=ats})(eg:∀args w,(callFunc f args).run prog w= .ok (.enter f args) w)(v0:Value)(hv:a.eval x=v0)
 (R:Value->World->Prop)(hc:Calls prog f #[v0] w fun e w'=>∃v,e= .returned v/\R v w')(h:∀v w',R v w'->K (a.put o.dst v) w'):
 if Region.wanted o (yielded ops a.tmps)=true then Oper.wp prog o a w K Q else E:=by
 have hw:Region.wanted o (yielded ops a.tmps)=true:=by simp[Region.wanted,hgd]
 rw[if_pos hw];have e:(execOp a.eval o).run prog w= .ok (.enter f #[v0]) w:=by
  unfold execOp;simp only[ho,resolve,invoke,Sem.run_bind,List.map_toArray,List.map_cons,List.map_nil,hv];simp[go_sem,eg,Act.eval]
 unfold Oper.wp;rw[e,Oper.upon_enter];exact hc.mono fun e w' ⟨v,he,hr⟩=>by subst he;exact h v w' hr
def Ae.new(B:Nat)(w:World)(t:Ae):Prop:=t.c1.new B w/\t.c2.new B w/\t.own.new B w
def Ae.apart(t:Ae):Prop:=∀b b',t.c1.a=some ⟨b,0,none⟩->0<t.c1.n->t.c2.a=some ⟨b',0,none⟩->0<t.c2.n->b≠b'
theorem Ag.seven{x0 x1 x2 x3 x4 x5 x6:Value}(h:Ag W P (.cells #[x0,x1,x2,x3,x4,x5,x6] t)):W.cell? ⟨P,0,none⟩=some x0/\W.cell? ⟨P,1,none⟩=some x1/\W.cell? ⟨P,2,none⟩=some x2/\W.cell? ⟨P,3,none⟩=some x3/\W.cell? ⟨P,4,none⟩=some x4/\W.cell? ⟨P,5,none⟩=some x5/\W.cell? ⟨P,6,none⟩=some x6:=by
 unfold Ag at h;simp[World.cell?,h]
theorem Em(tmps:Array Value)(W:World)(P:Nat)(x0 x1 x2 x3 x4 x5 x6:Value)(h:Ag W P (.cells #[x0,x1,x2,x3,x4,x5,x6] 39))(h2:tmps[2]? =some (.pointer P)):
 (results Tryz.f26 tmps).run prog W= .ok (.agg #[x0,x1,x2,x3,x4,x5,x6]) W:=by
 obtain⟨z0,z1,z2,z3,z4,z5,z6⟩:=h.seven;simp[results,Tryz.results26,go_sem,h2,z0,z1,z2,z3,z4,z5,z6]
theorem Ag.all7{z0 z1 z2 z3 z4 z5 z6:Value}(h:Ag W P (.cells #[z0,z1,z2,z3,z4,z5,z6] t))(x0 x1 x2 x3 x4 x5 x6:Value):
 Ag (((((((W.setCell ⟨P,0,none⟩ x0).setCell ⟨P,1,none⟩ x1).setCell ⟨P,2,none⟩ x2).setCell ⟨P,3,none⟩ x3).setCell ⟨P,4,none⟩ x4).setCell ⟨P,5,none⟩ x5).setCell ⟨P,6,none⟩ x6) P (.cells #[x0,x1,x2,x3,x4,x5,x6] t):=by
 have h0:Ag (W.setCell ⟨P,0,none⟩ x0) P (.cells #[x0,z1,z2,z3,z4,z5,z6] t):=h.jB (i:=0) x0;have h1:Ag ((W.setCell ⟨P,0,none⟩ x0).setCell ⟨P,1,none⟩ x1) P (.cells #[x0,x1,z2,z3,z4,z5,z6] t):=h0.jB (i:=1) x1;have h2:Ag (((W.setCell ⟨P,0,none⟩ x0).setCell ⟨P,1,none⟩ x1).setCell ⟨P,2,none⟩ x2) P (.cells #[x0,x1,x2,z3,z4,z5,z6] t):=h1.jB (i:=2) x2;have h3:Ag ((((W.setCell ⟨P,0,none⟩ x0).setCell ⟨P,1,none⟩ x1).setCell ⟨P,2,none⟩ x2).setCell ⟨P,3,none⟩ x3) P (.cells #[x0,x1,x2,x3,z4,z5,z6] t):=h2.jB (i:=3) x3;have h4:Ag (((((W.setCell ⟨P,0,none⟩ x0).setCell ⟨P,1,none⟩ x1).setCell ⟨P,2,none⟩ x2).setCell ⟨P,3,none⟩ x3).setCell ⟨P,4,none⟩ x4) P (.cells #[x0,x1,x2,x3,x4,z5,z6] t):=h3.jB (i:=4) x4;have h5:Ag ((((((W.setCell ⟨P,0,none⟩ x0).setCell ⟨P,1,none⟩ x1).setCell ⟨P,2,none⟩ x2).setCell ⟨P,3,none⟩ x3).setCell ⟨P,4,none⟩ x4).setCell ⟨P,5,none⟩ x5) P (.cells #[x0,x1,x2,x3,x4,x5,z6] t):=h4.jB (i:=5) x5;exact h5.jB (i:=6) x6
theorem Ly(t:Ae)(w:World)(ht:t.at w)(hs:t.small):
 Calls prog 26 #[t.val] w fun e w'=>∃u:Ae,e= .returned u.val/\t.same u/\u.new w w'/\u.apart/\Below w w w':=by
 have EG:∀args w,(callFunc 69 args).run prog w= .ok (.enter 69 args) w:=enters_of func69 (by kernel_rfl) rfl;have EH:∀args w,(callFunc 70 args).run prog w= .ok (.enter 70 args) w:=enters_of func70 (by kernel_rfl) rfl;have n4:No (.cells #[.int .i64 0,.int .i64 0,.slice none 0 0,.int .i64 0,.slice none 0 0,.slice none 0 0,.int .i64 0] 39):=⟨⟩;have b0:Below w w ((w.alloc t.blk).alloc n4):=(Bf w _).alloc (by simp) _;have A0:=(Ag.new w t.blk).alloc n4;have R0:Ag ((w.alloc t.blk).alloc n4) (w.heap.size+1) n4:=by
  have:=Ag.new (w.alloc t.blk) n4;simpa using this
 have T0:=hid (ht.below b0);unfold Ae.blk at b0 A0 R0 T0;unfold Ae.val;obtain⟨x0,x1,x2,x3,x4,x5,x6⟩:=A0.seven;obtain⟨m1,m2,m3⟩:=hs;clear ht;go_enter func26,ntmps26
 go_wp2;have n5:No (.cells #[t.id,t.b1,t.c1.val,t.b2,t.c2.val,t.own.val,t.made] 39):=⟨⟩;generalize hV:((w.alloc n5).alloc n4)=V at *;have B0:=hid b0;have A0':=hid A0;have R0':=hid R0;have PA:Hid (∀W,Below V V W->Calls prog 69 #[.agg #[t.b1,t.c1.val]] W fun e w'=>∃v,e= .returned v/\∃d:Ar,v= .agg #[t.b1,d.val]/\t.c1.same d/\d.new W w'/\Below W W w'):=hid (fun W hW=>(AW t.b1 t.c1 W (T0.out.below hW).1 m1).mono fun e w' ⟨d,h1,h2,h3,h4⟩=>⟨_,h1,d,rfl,h2,h3,h4⟩);have PB:Hid (∀W,Below V V W->Calls prog 69 #[.agg #[t.b2,t.c2.val]] W fun e w'=>∃v,e= .returned v/\∃d:Ar,v= .agg #[t.b2,d.val]/\t.c2.same d/\d.new W w'/\Below W W w'):=hid (fun W hW=>(AW t.b2 t.c2 W (T0.out.below hW).2.1 m2).mono fun e w' ⟨d,h1,h2,h3,h4⟩=>⟨_,h1,d,rfl,h2,h3,h4⟩);have PC:Hid (∀W,Below V V W->Calls prog 70 #[t.own.val] W fun e w'=>∃v,e= .returned v/\∃d:AJ,v=d.val/\t.own.same d/\d.new W w'/\Below W W w'):=hid (fun W hW=>(JU t.own W (T0.out.below hW).2.2 m3).mono fun e w' ⟨d,h1,h2,h3,h4⟩=>⟨_,h1,d,rfl,h2,h3,h4⟩);have V0:Hid (Below V V V.drew):=hid (Below.refl _ V).drew;have Ad:Hid (Ag V.drew w n5):=hid A0;clear hV b0 A0 R0;have mk1:True:=trivial;have mk2:True:=trivial;go_region_law(first
  |(clear mk1;refine Dk (by rfl) 69 _ _ (by rfl) EG _ (by rfl) _ (PA _ V0) ?_;rintro v w1 ⟨d1,rfl,s1,n1,h1⟩;have V1:=hid (Af V0 h1);obtain⟨e0,e1,e2,e3,e4,e5,e6⟩:=(Ad.out.below h1).seven)
  |(clear mk2;refine Dk (by rfl) 69 _ _ (by rfl) EG _ (by rfl) _ (PB _ V1) ?_;rintro v w2 ⟨d2,rfl,s2,n2,h2⟩;have V2:=hid (Af V1 h2);obtain⟨f0,f1,f2,f3,f4,f5,f6⟩:=((Ad.out.below h1).below h2).seven)
  |(refine Dk (by rfl) 70 _ _ (by rfl) EH _ (by rfl) _ (PC _ V2) ?_;rintro v w3 ⟨d3,rfl,s3,n3,h3⟩;have V3:=hid (Af V2 h3);unfold Ar.val AJ.val;obtain⟨g0,g1,g2,g3,g4,g5,g6⟩:=(((Ad.out.below h1).below h2).below h3).seven;have gf:=(((Ad.out.below h1).below h2).below h3).jC))
 all_goals(
  have A3:=hid (((Ad.out.below h1).below h2).below h3);have R3:Hid (Ag w3 (w.heap.size+1) _):=hid (R0'.out.below V3);have N1:=hid ((n1.below h2).below h3);have N2:=hid (n2.below h3);have N3:=hid n3;have S1:=hid s1;have S2:=hid s2;have S3:=hid s3;have AP:Hid (∀b b',d1.a=some ⟨b,0,none⟩->0<d1.n->d2.a=some ⟨b',0,none⟩->0<d2.n->b≠b'):=hid (fun b b' e1 p1 e2 p2=>by
   obtain⟨c,_,_,q1,_,_,q2⟩:=n1.2 p1;obtain⟨c',_,_,q3,q4,_⟩:=n2.2 p2;rw[e1]at q1;rw[e2]at q3;cases q1;cases q3;have:=q2.lt;omega)
  have B3:=hid (Af B0 V3);have L0:=hid (show w.heap.size<=V.drew.heap.size from B0.out.size);have L1:=hid (Nat.le_trans L0 h1.size);have L2:=hid (Nat.le_trans L1 h2.size);obtain⟨r0,r1,r2,r3,r4,r5,r6⟩:=R3.out.seven;have rf:=R3.out.jC;have ne1:¬w.heap.size+1=w.heap.size:=by omega
  have ne2:¬w.heap.size=w.heap.size+1:=by omega
  clear h1 h2 h3 n1 n2 n3 s1 s2 s3 e0 e1 e2 e3 e4 e5 e6 f0 f1 f2 f3 f4 f5 f6 x0 x1 x2 x3 x4 x5 x6 PA PB PC EG EH V0 V1 V2 V3 Ad;simp only[Ar.val,AJ.val]at g2 g4 g5;go_wp2;refine bodyPost_ret (Em _ _ (w.heap.size+1) (.int .i64 t.id) (.int .i64 t.b1) (.slice d1.a d1.n d1.k) (.int .i64 t.b2) (.slice d2.a d2.n d2.k) (.slice d3.a d3.n d3.k) (.int .i64 t.made) (Ag.all7 (((((R3.out.other (by omega) _).other (by omega) _).other (by omega) _).other (by omega) _).other (by omega) _) _ _ _ _ _ _ _) rfl) rfl ⟨⟨t.id,t.b1,d1,t.b2,d2,d3,t.made⟩,rfl,⟨rfl,rfl,S1,rfl,S2,S3,rfl⟩,⟨?_,?_,?_⟩,AP,?_⟩
  ·refine(N1.out.low L0).of (by simp) (fun g hg hn'=>?_);have q1:=N1.out.ne A3 (by decide) g hg hn';have q2:=N1.out.ne R3 (by decide) g hg hn';iterate 12 rw[blk_setCell_other _ _ _ _ (by dsimp only;omega)]
  ·refine(N2.out.low L1).of (by simp) (fun g hg hn'=>?_);have q1:=N2.out.ne A3 (by decide) g hg hn';have q2:=N2.out.ne R3 (by decide) g hg hn';iterate 12 rw[blk_setCell_other _ _ _ _ (by dsimp only;omega)]
  ·refine(N3.out.low L2).of (by simp) (fun g hg hn'=>?_);have q1:=N3.out.ne A3 (by decide) g hg hn';have q2:=N3.out.ne R3 (by decide) g hg hn';iterate 12 rw[blk_setCell_other _ _ _ _ (by dsimp only;omega)]
  ·iterate 12 refine Below.setCell ?_ (by dsimp only;omega) _
   exact B3.out)
def Ab.new(B:Nat)(w:World)(t:Ab):Prop:=t.c1.new B w/\t.jA.new B w/\t.own.new B w/\t.c2.new B w
def Ab.apart(t:Ab):Prop:=∀b b',t.c1.a=some ⟨b,0,none⟩->0<t.c1.n->t.c2.a=some ⟨b',0,none⟩->0<t.c2.n->b≠b'
theorem Ps(tmps:Array Value)(W:World)(P:Nat)(x0 x1 x2 x3 x4 x5 x6 x7 x8 x9:Value)(h:Ag W P (.cells #[x0,x1,x2,x3,x4,x5,x6,x7,x8,x9] 44))(h2:tmps[2]? =some (.pointer P)):
 (results Tryz.f28 tmps).run prog W= .ok (.agg #[x0,x1,x2,x3,x4,x5,x6,x7,x8,x9]) W:=by
 obtain⟨z0,z1,z2,z3,z4,z5,z6,z7,z8,z9⟩:=h.jE;simp[results,Tryz.results28,go_sem,h2,z0,z1,z2,z3,z4,z5,z6,z7,z8,z9]
def Dp:Obj:= .cells #[.int .i64 0,.int .i64 0,.int .i64 0,.int .i64 0,.slice none 0 0,.string (ByteArray.mk #[]),.slice none 0 0,.slice none 0 0,.int .i64 0,.slice none 0 0] 44
theorem Lu(t:Ab)(w:World)(ht:t.at w)(hs:t.small):
 Calls prog 28 #[t.val] w fun e w'=>∃u:Ab,e= .returned u.val/\t.same u/\u.new w w'/\u.apart/\Below w w w':=by
 have EG:∀args w,(callFunc 69 args).run prog w= .ok (.enter 69 args) w:=enters_of func69 (by kernel_rfl) rfl;have EH:∀args w,(callFunc 70 args).run prog w= .ok (.enter 70 args) w:=enters_of func70 (by kernel_rfl) rfl;have EI:∀args w,(callFunc 71 args).run prog w= .ok (.enter 71 args) w:=enters_of func71 (by kernel_rfl) rfl;have b0:Below w w ((w.alloc t.blk).alloc Dp):=(Bf w _).alloc (by simp) _;have A0:=(Ag.new w t.blk).alloc Dp;have R0:Ag ((w.alloc t.blk).alloc Dp) (w.heap.size+1) Dp:=by
  have:=Ag.new (w.alloc t.blk) Dp;simpa using this
 have T0:=hid (ht.below b0);unfold Ab.blk Dp at b0 A0 R0 T0;unfold Ab.val;obtain⟨x0,x1,x2,x3,x4,x5,x6,x7,x8,x9⟩:=A0.jE;obtain⟨m1,m2,m3,m4,m5⟩:=hs;clear ht;go_enter func28,ntmps28
 go_wp2;have n5:No (.cells #[t.id,t.kind,t.up,t.b1,t.c1.val,.string t.data,t.jA.val,t.own.val,t.b2,t.c2.val] 44):=⟨⟩;generalize hV:((w.alloc n5).alloc (.cells #[.int .i64 0,.int .i64 0,.int .i64 0,.int .i64 0,.slice none 0 0,.string (ByteArray.mk #[]),.slice none 0 0,.slice none 0 0,.int .i64 0,.slice none 0 0] 44))=V at *;have B0:=hid b0;have A0':=hid A0;have R0':=hid R0;have PA:Hid (∀W,Below V V W->Calls prog 69 #[.agg #[t.b1,t.c1.val]] W fun e w'=>∃v,e= .returned v/\∃d:Ar,v= .agg #[t.b1,d.val]/\t.c1.same d/\d.new W w'/\Below W W w'):=hid (fun W hW=>(AW t.b1 t.c1 W (T0.out.below hW).1 m1).mono fun e w' ⟨d,h1,h2,h3,h4⟩=>⟨_,h1,d,rfl,h2,h3,h4⟩);have PB:Hid (∀W,Below V V W->Calls prog 69 #[.agg #[t.b2,t.c2.val]] W fun e w'=>∃v,e= .returned v/\∃d:Ar,v= .agg #[t.b2,d.val]/\t.c2.same d/\d.new W w'/\Below W W w'):=hid (fun W hW=>(AW t.b2 t.c2 W (T0.out.below hW).2.2.2.1 m5).mono fun e w' ⟨d,h1,h2,h3,h4⟩=>⟨_,h1,d,rfl,h2,h3,h4⟩);have PC:Hid (∀W,Below V V W->Calls prog 70 #[t.own.val] W fun e w'=>∃v,e= .returned v/\∃d:AJ,v=d.val/\t.own.same d/\d.new W w'/\Below W W w'):=hid (fun W hW=>(JU t.own W (T0.out.below hW).2.2.1 m4).mono fun e w' ⟨d,h1,h2,h3,h4⟩=>⟨_,h1,d,rfl,h2,h3,h4⟩);have PD:Hid (∀W,Below V V W->Calls prog 71 #[t.jA.val] W fun e w'=>∃v,e= .returned v/\∃d:AH,v=d.val/\t.jA.same d/\d.new W w'/\Below W W w'):=hid (fun W hW=>(OY t.jA W (T0.out.below hW).2.1 m3.1).mono fun e w' ⟨d,h1,h2,h3,h4⟩=>⟨_,h1,d,rfl,h2,h3,h4⟩);have V0:Hid (Below V V V.drew):=hid (Below.refl _ V).drew;have Ad:Hid (Ag V.drew w n5):=hid A0;clear hV b0 A0 R0;have HS0:Ag V.drew w n5:=Ad.out;refine Am 13 (fun W=>Ag W w n5) (by kernel_rfl) ?_;have HS1:(fun W=>Ag W w n5) V.drew:=HS0;clear HS0;have n6:Nv (.pointer (some ⟨w,3,none⟩)):=⟨⟩;refine Bd (i:=0) (d:=3) n6 rfl rfl (by kernel_rfl) (by kernel_rfl) (by kernel_rfl) (by kernel_rfl) (by kernel_rfl) (by kernel_rfl) (fun _ _ _ h=>h) (Or.inl ⟨by rfl,fun W hSw=>by go_simp⟩) HS1 ?_;simp only[ap,List.set];refine Bd (i:=1) (d:=4) (.agg #[t.b1,t.c1.val]) rfl rfl (by kernel_rfl) (by kernel_rfl) (by kernel_rfl) (by kernel_rfl) (by kernel_rfl) (by kernel_rfl) (fun _ _ _ h=>h) (Or.inl ⟨by rfl,fun W hSw=>by obtain⟨q0,q1,q2,q3,q4,q5,q6,q7,q8,q9⟩:=Ag.jE hSw;go_simp⟩) HS1 ?_;simp only[ap,List.set];refine Bd (i:=3) (d:=6) (.pointer (some ⟨w,8,none⟩)) rfl rfl (by kernel_rfl) (by kernel_rfl) (by kernel_rfl) (by kernel_rfl) (by kernel_rfl) (by kernel_rfl) (fun _ _ _ h=>h) (Or.inl ⟨by rfl,fun W hSw=>by go_simp⟩) HS1 ?_;simp only[ap,List.set];refine Bd (i:=4) (d:=7) (.agg #[t.b2,t.c2.val]) rfl rfl (by kernel_rfl) (by kernel_rfl) (by kernel_rfl) (by kernel_rfl) (by kernel_rfl) (by kernel_rfl) (fun _ _ _ h=>h) (Or.inl ⟨by rfl,fun W hSw=>by obtain⟨q0,q1,q2,q3,q4,q5,q6,q7,q8,q9⟩:=Ag.jE hSw;go_simp⟩) HS1 ?_;simp only[ap,List.set];refine Bd (i:=6) (d:=9) (.pointer (some ⟨w,7,none⟩)) rfl rfl (by kernel_rfl) (by kernel_rfl) (by kernel_rfl) (by kernel_rfl) (by kernel_rfl) (by kernel_rfl) (fun _ _ _ h=>h) (Or.inl ⟨by rfl,fun W hSw=>by go_simp⟩) HS1 ?_;simp only[ap,List.set];refine Bd (i:=7) (d:=10) (t.own.val) rfl rfl (by kernel_rfl) (by kernel_rfl) (by kernel_rfl) (by kernel_rfl) (by kernel_rfl) (by kernel_rfl) (fun _ _ _ h=>h) (Or.inl ⟨by rfl,fun W hSw=>by obtain⟨q0,q1,q2,q3,q4,q5,q6,q7,q8,q9⟩:=Ag.jE hSw;go_simp⟩) HS1 ?_;simp only[ap,List.set];refine Bd (i:=9) (d:=12) (.pointer (some ⟨w,6,none⟩)) rfl rfl (by kernel_rfl) (by kernel_rfl) (by kernel_rfl) (by kernel_rfl) (by kernel_rfl) (by kernel_rfl) (fun _ _ _ h=>h) (Or.inl ⟨by rfl,fun W hSw=>by go_simp⟩) HS1 ?_;simp only[ap,List.set];refine Bd (i:=10) (d:=13) (t.jA.val) rfl rfl (by kernel_rfl) (by kernel_rfl) (by kernel_rfl) (by kernel_rfl) (by kernel_rfl) (by kernel_rfl) (fun _ _ _ h=>h) (Or.inl ⟨by rfl,fun W hSw=>by obtain⟨q0,q1,q2,q3,q4,q5,q6,q7,q8,q9⟩:=Ag.jE hSw;go_simp⟩) HS1 ?_;simp only[ap,List.set];refine Ac (i:=2) (by kernel_rfl) rfl ?_;intro K hK;refine AE (by rfl) 69 _ _ (by rfl) EG _ (by rfl) (some 5) (by rfl) _ (PA _ V0) ?_;rintro v w1 ⟨d1,rfl,s1,n1,h1⟩;refine hK _ _ (fun _=>Ag.below HS1 h1) ?_;have V1:=hid (Af V0 h1);have HS2:(fun W=>Ag W w n5) w1:=Ag.below HS1 h1;clear hK K HS1;try simp only[ap,List.set]
 refine Bd (i:=12) (d:=15) n6 rfl rfl (by kernel_rfl) (by kernel_rfl) (by kernel_rfl) (by kernel_rfl) (by kernel_rfl) (by kernel_rfl) (fun _ _ _ h=>h) (Or.inl ⟨by rfl,fun W hSw=>by go_simp⟩) HS2 ?_;simp only[ap,List.set];refine Ac (i:=5) (by kernel_rfl) rfl ?_;intro K hK;refine AE (by rfl) 69 _ _ (by rfl) EG _ (by rfl) (some 8) (by rfl) _ (PB _ V1) ?_;rintro v w2 ⟨d2,rfl,s2,n2,h2⟩;refine hK _ _ (fun _=>Ag.below HS2 h2) ?_;have V2:=hid (Af V1 h2);have HS3:(fun W=>Ag W w n5) w2:=Ag.below HS2 h2;clear hK K HS2;try simp only[ap,List.set]
 refine Ac (i:=8) (by kernel_rfl) rfl ?_;intro K hK;refine AE (by rfl) 70 _ _ (by rfl) EH _ (by rfl) (some 11) (by rfl) _ (PC _ V2) ?_;rintro v w3 ⟨d3,rfl,s3,n3,h3⟩;refine hK _ _ (fun _=>Ag.below HS3 h3) ?_;have V3:=hid (Af V2 h3);have HS4:(fun W=>Ag W w n5) w3:=Ag.below HS3 h3;clear hK K HS3;try simp only[ap,List.set]
 refine Ac (i:=11) (by kernel_rfl) rfl ?_;intro K hK;refine AE (by rfl) 71 _ _ (by rfl) EI _ (by rfl) (some 14) (by rfl) _ (PD _ V3) ?_;rintro v w4 ⟨d4,rfl,s4,n4,h4⟩;refine hK _ _ (fun _=>Ag.below HS4 h4) ?_;have V4:=hid (Af V3 h4);have HS5:(fun W=>Ag W w n5) w4:=Ag.below HS4 h4;clear hK K HS4;try simp only[ap,List.set]
 unfold Ar.val AJ.val AH.val;obtain⟨g0,g1,g2,g3,g4,g5,g6,g7,g8,g9⟩:=Ag.jE HS5;have gf:=Ag.jC HS5;simp only[Ar.val,AJ.val,AH.val]at g4 g6 g7 g9;refine Ac (i:=13) (by kernel_rfl) rfl ?_;intro K hK;go_simp;refine hK _ _ (fun h=>absurd h (by decide)) ?_;clear hK K;try simp only[ap,List.set]
 refine Ac (i:=14) (by kernel_rfl) rfl ?_;intro K hK;go_simp;refine hK _ _ (fun h=>absurd h (by decide)) ?_;clear hK K;try simp only[ap,List.set]
 refine Ac (i:=15) (by kernel_rfl) rfl ?_;intro K hK;go_simp;refine hK _ _ (fun h=>absurd h (by decide)) ?_;clear hK K;try simp only[ap,List.set]
 refine Ac (i:=16) (by kernel_rfl) rfl ?_;intro K hK;go_simp;refine hK _ _ (fun h=>absurd h (by decide)) ?_;clear hK K;try simp only[ap,List.set]
 refine Ac (i:=17) (by kernel_rfl) rfl ?_;intro K hK;go_simp;refine hK _ _ (fun h=>absurd h (by decide)) ?_;clear hK K;try simp only[ap,List.set]
 refine Ac (i:=18) (by kernel_rfl) rfl ?_;intro K hK;go_simp;refine hK _ _ (fun h=>absurd h (by decide)) ?_;clear hK K;try simp only[ap,List.set]
 refine Ac (i:=19) (by kernel_rfl) rfl ?_;intro K hK;go_simp;refine hK _ _ (fun h=>absurd h (by decide)) ?_;clear hK K;try simp only[ap,List.set]
 refine Aj (by kernel_rfl) ?_ _;have A3:=hid HS5;have R3:Hid (Ag w4 (w.heap.size+1) _):=hid (R0'.out.below V4);have N1:=hid (((n1.below h2).below h3).below h4);have N2:=hid ((n2.below h3).below h4);have N3:=hid (n3.below h4);have N4:=hid n4;have S1:=hid s1;have S2:=hid s2;have S3:=hid s3;have S4:=hid s4;have AP:Hid (∀b b',d1.a=some ⟨b,0,none⟩->0<d1.n->d2.a=some ⟨b',0,none⟩->0<d2.n->b≠b'):=hid (fun b b' e1 p1 e2 p2=>by
  obtain⟨c,_,_,q1,_,_,q2⟩:=n1.2 p1;obtain⟨c',_,_,q3,q4,_⟩:=n2.2 p2;rw[e1]at q1;rw[e2]at q3;cases q1;cases q3;have:=q2.lt;omega)
 have B3:=hid (Af B0 V4);have L0:=hid (show w.heap.size<=V.drew.heap.size from B0.out.size);have L1:=hid (Nat.le_trans L0 h1.size);have L2:=hid (Nat.le_trans L1 h2.size);have L3:=hid (Nat.le_trans L2 h3.size);obtain⟨r0,r1,r2,r3,r4,r5,r6,r7,r8,r9⟩:=R3.out.jE;have rf:=R3.out.jC;have ne1:¬w.heap.size+1=w.heap.size:=by omega
 have ne2:¬w.heap.size=w.heap.size+1:=by omega
 clear h1 h2 h3 h4 n1 n2 n3 n4 s1 s2 s3 s4 x0 x1 x2 x3 x4 x5 x6 x7 x8 x9 PA PB PC PD EG EH EI V0 V1 V2 V3 V4 Ad HS5;go_wp2;refine bodyPost_ret (Ps _ _ (w.heap.size+1) (.int .i64 t.id) (.int .i64 t.kind) (.int .i64 t.up) (.int .i64 t.b1) (.slice d1.a d1.n d1.k) (.string t.data) (.slice d4.a d4.n d4.k) (.slice d3.a d3.n d3.k) (.int .i64 t.b2) (.slice d2.a d2.n d2.k) (Ag.all10 ((((((R3.out.other (by omega) _).other (by omega) _).other (by omega) _).other (by omega) _).other (by omega) _).other (by omega) _) _ _ _ _ _ _ _ _ _ _) rfl) rfl ⟨⟨t.id,t.kind,t.up,t.b1,d1,t.data,d4,d3,t.b2,d2⟩,rfl,⟨rfl,rfl,rfl,rfl,S1,rfl,S4,S3,rfl,S2⟩,⟨?_,?_,?_,?_⟩,AP,?_⟩
 ·refine(N1.out.low L0).of (by simp) (fun g hg hn'=>?_);have q1:=N1.out.ne A3 (by decide) g hg hn';have q2:=N1.out.ne R3 (by decide) g hg hn';iterate 16 rw[blk_setCell_other _ _ _ _ (by dsimp only;omega)]
 ·refine(N4.out.low L3).of (by simp) (fun g hg hn'=>?_);have q1:=N4.out.ne A3 (by decide) g hg hn';have q2:=N4.out.ne R3 (by decide) g hg hn';iterate 16 rw[blk_setCell_other _ _ _ _ (by dsimp only;omega)]
 ·refine(N3.out.low L2).of (by simp) (fun g hg hn'=>?_);have q1:=N3.out.ne A3 (by decide) g hg hn';have q2:=N3.out.ne R3 (by decide) g hg hn';iterate 16 rw[blk_setCell_other _ _ _ _ (by dsimp only;omega)]
 ·refine(N2.out.low L1).of (by simp) (fun g hg hn'=>?_);have q1:=N2.out.ne A3 (by decide) g hg hn';have q2:=N2.out.ne R3 (by decide) g hg hn';iterate 16 rw[blk_setCell_other _ _ _ _ (by dsimp only;omega)]
 ·iterate 16 refine Below.setCell ?_ (by dsimp only;omega) _
  exact B3.out
end Go.Proofs.YteoihknaljgocaaGreatDoor
