import Derived.Test.YtallmkehpfaaeaaGreatDoorZ4
import Derived.Test.YtallmkehpfaaeaaGreatDoorZ3
import Derived.Deep.RegionLaw
import Derived.Shelf.Abstract
set_option maxRecDepth 100000
set_option maxHeartbeats 4000000
namespace Go.Proofs.YtallmkehpfaaeaaGreatDoor
open Go Go.RowKit Go.Deep Go.Maps
def kidsTo(ids ups:Nat→Int)(q i:Nat):List Int:=((List.range q).filter (fun j=>ups j==ids i)).map ids
theorem kidsTo_yes{ids ups:Nat→Int}{q i:Nat}(h:ups q=ids i):kidsTo ids ups (q+1) i=kidsTo ids ups q i++[ids q]:=by
 simp[kidsTo,List.range_succ,h]
theorem kidsTo_no{ids ups:Nat→Int}{q i:Nat}(h:ups q≠ids i):kidsTo ids ups (q+1) i=kidsTo ids ups q i:=by
 simp[kidsTo,List.range_succ,h]
theorem kidsTo_len(ids ups:Nat→Int)(q i:Nat):(kidsTo ids ups q i).length≤q:=by
 unfold kidsTo;rw[List.length_map];exact Nat.le_trans (List.length_filter_le _ _) (by simp)
theorem MapP.update{w:World}{b n:Nat}{m:Int→Option Nat}(h:MapP w b n m)(hn:n<maxLen)(kx:Int)(p:Nat)(wk:(Lit.int .i64 kx).wf=true):
 ∃w',(Instr.mapUpdate 88 (.map (some b)) (.int .i64 kx) (.pointer (some ⟨p,0,none⟩))).run Tryz.prog w= .ok () w'∧MapP w' b (n+1) (setP m kx p)∧w.grownBy w' (some b):=by
 obtain⟨D,hown,hD,hall⟩:=h;obtain⟨w',hrun,r1,r2⟩:=hown.update keyed2 Tryz.underlying88 hn (keyOf_int_mk Tryz.underlying2 wk) (val:= .pointer (some ⟨p,0,none⟩)) (d:= .lit (.int .i64 (p:Int))) (ps:=[]) rfl;have hp:=MapP.put (k:=kx) (v:=p) hD hall;exact⟨w',hrun,⟨_,r1,hp.1,hp.2⟩,r2⟩
theorem below_drew{w w':World}(h:Below w.heap.size w w'):Below w.heap.size w w'.drew:=below_drewN h 1
theorem below_grown{B:Nat}{w w':World}{row:Option Nat}(h:w.grownBy w' row)(hB:B≤w.heap.size)(hr:∀j,row=some j→B≤j):Below B w w':=
 ⟨h.os,h.tape,h.output,h.size,fun k hk=>h.block k (by omega) (fun e=>by have:=hr k e.symm;omega)⟩
theorem step_append_int{ops:Array Oper}{o:Oper}{a:Act}{w:World}{K:Act→World→Prop}{Q:Exit→Act→World→Prop}{E:Prop}(hgd:o.guard=none)(s x:Operand)
 (ho:o.op= .call {callee:= .builtin .append,args:=#[s,x],argTypes:=#[40,40]})
 (B:Nat)(v:Value)(l:List Int)(hs:a.eval s=v)(hown:OwnI w B v l)(ad:Option Addr)(c:Nat)(r:Int)(hx:a.eval x= .slice ad 1 c)(hc:NumL w ad [r])
 (hm:l.length≤100000)(hB:B≤w.heap.size)
 (h:∀a' c' w',OwnI w' B (.slice a' (l.length+1) c') (l++[r])→w.grownBy w' v.ownBlock→((Value.slice a' (l.length+1) c').ownBlock=v.ownBlock∨(Value.slice a' (l.length+1) c').ownBlock=some w.heap.size)→K (a.put o.dst (.slice a' (l.length+1) c')) w'):
 if Region.wanted o (yielded ops a.tmps)=true then Oper.wp Tryz.prog o a w K Q else E:=by
 have hw:Region.wanted o (yielded ops a.tmps)=true:=by simp[Region.wanted,hgd]
 rw[if_pos hw];refine wp_append_gen Tryz.underlying40 Tryz.info2 rfl (by omega) w s x ho B v l.length _ hs hown ad 1 c [.int .i64 r] hx rfl hc (by simp[Value.oneCell']) (by omega) (by omega) hB fun a' c' w' h2 h3 h4=>?_;refine h a' c' w' ?_ h3 h4;unfold OwnI;rw[List.length_append,List.map_append];exact h2
theorem Nodes.same{w:World}{B c n:Nat}{ids:Nat→Int}{ob off:Nat}{nb:Nat→Nat}{kv:Nat→Value}{K K':Nat→List Int}(h:Nodes w B c n ids ob off nb kv K)(e:∀i,i<n→K' i=K i):Nodes w B c n ids ob off nb kv K':=
 ⟨h.map,h.blk,h.inj,fun i hi=>by rw[e i hi];exact h.own i hi,h.apart,h.low,h.lowc⟩
theorem Nodes.grow{wr W w1:World}{B c k:Nat}{ids:Nat→Int}{ob off:Nat}{nb:Nat→Nat}(H:Nodes wr B c k ids ob off nb (fun _=> .slice none 0 0) (fun _=>[]))(hr:Rises ids (k+1))(hb:Below wr.heap.size wr W)
 (hA:Blk W wr.heap.size (.cells #[.pointer (some ⟨ob,off+k*10,none⟩),.slice none 0 0] 93))(hM:MapP w1 c (k+1) (setP (fun x=>(findI ids k x).map nb) (ids k) wr.heap.size))(hG:W.grownBy w1 (some c)):
 Nodes w1 B c (k+1) ids ob off (fun i=>if i=k then wr.heap.size else nb i) (fun _=> .slice none 0 0) (fun _=>[]):=by
 have hc:c<wr.heap.size:=H.map.lt;have cne:∀i,i<k→c≠nb i:=fun i hi e=>by
  obtain⟨es,clock,hm⟩:=H.map.isMap;have:=H.blk i hi;unfold Blk at this;rw[←e,hm]at this;cases this
 refine⟨?_,fun i hi=>?_,fun i j hi hj=>?_,fun i hi=>OwnI.nil _ _,fun i j _ _ _=> .inl rfl,fun i hi=>?_,H.lowc⟩
 ·have e:(fun x=>(findI ids (k+1) x).map (fun i=>if i=k then wr.heap.size else nb i))=setP (fun x=>(findI ids k x).map nb) (ids k) wr.heap.size:=by
   funext x;rw[findI_succ hr];unfold setP;split
   ·simp
   ·cases e1:findI ids k x with
    |none=>simp[e1]
    |some j=>
     have:=(findI_some e1).1;simp only[Option.map_some,e1];rw[if_neg (by omega)]
  rw[e];exact hM
 ·by_cases e:i=k
  ·subst e;rw[if_pos rfl];exact(hG.block _ hA.lt (by simp;omega)).trans hA
  ·rw[if_neg e];have h1:=(H.blk i (by omega)).below hb;exact(hG.block _ h1.lt (by simp;exact fun e=>cne i (by omega) e.symm)).trans h1
 ·have lt:∀i,i<k→nb i<wr.heap.size:=fun i hi=>(H.blk i hi).lt;by_cases e:i=k
  ·by_cases e':j=k
   ·omega
   ·rw[if_pos e,if_neg e'];have:=lt j (by omega);omega
  ·by_cases e':j=k
   ·rw[if_neg e,if_pos e'];have:=lt i (by omega);omega
   ·rw[if_neg e,if_neg e'];exact H.inj i j (by omega) (by omega)
 ·split
  ·have:=H.lowc;omega
  ·exact H.low i (by omega)
theorem nodesOf_any(ob off n cap:Nat)(O:Nat→ObjV)(w:World)(hn:n≤271)(hO:ObjsAt w (some ⟨ob,off,none⟩) n O)(hr:Rises (fun i=>(O i).id) n)
 (hw:∀i,i<n→(Lit.int .i64 (O i).id).wf=true∧(Lit.int .i64 (O i).up).wf=true):
 Calls Tryz.prog 52 #[.slice (some ⟨ob,off,none⟩) n cap] w fun e w'=>∃c nb kv,e= .returned (.map (some c))∧Nodes w' w.heap.size c n (fun i=>(O i).id) ob off nb kv (kidsTo (fun i=>(O i).id) (fun i=>(O i).up) n)∧Below w.heap.size w w':=by
 have hmm:=@run_makeMap Tryz.prog;have HO:=hid hO;have HR:=hid hr;have HW:=hid hw;clear hO hr hw;have M0:=hid (MapP.made w);have hb0:=(Below.refl _ w).alloc (Nat.le_refl _) (.map #[] 0);go_enter Tryz.func52,Tryz.ntmps52
 go_wp2;go_loopw [11] (fun i wr=>∃(k:Nat) (nb:Nat→Nat),k≤n∧i= .int .i64 k∧Hid (Nodes wr w.heap.size w.heap.size k (fun i=>(O i).id) ob off nb (fun _=> .slice none 0 0) (fun _=>[]))∧Below w.heap.size w wr) (fun i _=>n-(intOf i).toNat)
 case atStart=>
  refine⟨0,fun _=>0,Nat.zero_le _,rfl,hid ⟨?_,fun i hi=>by omega,fun i j hi=>by omega,fun i hi=>by omega,fun i j hi=>by omega,fun i hi=>by omega,Nat.le_refl _⟩,hb0⟩;exact M0.out
 case round=>
  obtain⟨k,nb,hk,rfl,HN,hB⟩:=hrel;clear M0 hb0 hmm;by_cases hlt:k<n
  ·obtain⟨_,_,ea,hlt0,hcc⟩:=HO.out.below hB (by omega);cases ea;have q0:=(hcc k hlt).1.c0;have i1:(k:Int)<(n:Int):=(by omega);have i0:(0:Int)≤(k:Int):=(by omega);have W0:=hid (HW.out k hlt).1;clear hcc;go_wp2;have kn:k<maxLen:=(by unfold maxLen;omega);have n3:No (.cells #[.pointer (some ⟨ob,off+k*10,none⟩),.slice none 0 0] 93):=⟨⟩;have b1:Below wr.heap.size wr ((wr.alloc n3).drew):=below_drew ((Below.refl _ wr).alloc (Nat.le_refl _) _);have A1:Blk ((wr.alloc n3).drew) wr.heap.size n3:=Blk.new wr _;obtain⟨w1,hrun,hm1,hg1⟩:=(HN.out.map.below b1).update kn (O k).id wr.heap.size W0.out;have HM:=hid hm1;have HG:=hid hg1;have HB:=hid b1;have HA:=hid A1;clear hm1 hg1 b1 A1;go_region;have NN:=hid (HN.out.grow (HR.out.less (by omega)) HB.out HA.out HM.out HG.out);have B1:Below w.heap.size w w1:=(then_ hB HB.out).trans (below_grown HG.out (then_ hB HB.out).size (fun j hj=>by cases hj;exact Nat.le_refl _));clear HM HG HB HA hrun HN q0;go_wp2;exact⟨⟨k+1,_,by omega,by go_num,NN,B1⟩,by simp[intOf];omega⟩
  ·have e:k=n:=(by omega);subst e;have i1:¬(k:Int)<(k:Int):=(by omega);go_wp2;go_loopw [28] (fun i wr=>∃(q:Nat) (kv:Nat→Value),q≤k∧i= .int .i64 q∧Hid (Nodes wr w.heap.size w.heap.size k (fun i=>(O i).id) ob off nb kv (kidsTo (fun i=>(O i).id) (fun i=>(O i).up) q))∧Below w.heap.size w wr) (fun i _=>k-(intOf i).toNat)
   case atStart=>exact⟨0,_,Nat.zero_le _,rfl,HN,hB⟩
   case round=>
    obtain⟨q,kv,hq,rfl,HN,hB⟩:=hrel;by_cases hlt:q<k
    ·obtain⟨_,_,ea,hlt0,hcc⟩:=HO.out.below hB (by omega);cases ea;obtain⟨q0,q1,q2,q3,q4,q5,q6,q7,q8,q9⟩:=(hcc q hlt).1;simp only[CatL.val,IntL.val,StrL.val]at q4 q6 q7 q9;have i1:(q:Int)<(k:Int):=(by omega);have b1:Below wr.heap.size wr (wr.alloc (.cells #[.int .i64 (O q).id,.int .i64 (O q).kind,.int .i64 (O q).up,.int .i64 (O q).b1,.slice (O q).c1.a (O q).c1.n (O q).c1.k,.string (O q).data,.slice (O q).items.a (O q).items.n (O q).items.k,.slice (O q).own.a (O q).own.n (O q).own.k,.int .i64 (O q).b2,.slice (O q).c2.a (O q).c2.n (O q).c2.k] 47)):=(Below.refl _ wr).alloc (Nat.le_refl _) _;have n1:No (.cells #[.int .i64 (O q).id,.int .i64 (O q).kind,.int .i64 (O q).up,.int .i64 (O q).b1,.slice (O q).c1.a (O q).c1.n (O q).c1.k,.string (O q).data,.slice (O q).items.a (O q).items.n (O q).items.k,.slice (O q).own.a (O q).own.n (O q).own.k,.int .i64 (O q).b2,.slice (O q).c2.a (O q).c2.n (O q).c2.k] 47):=⟨⟩;have A1:=Blk.new wr n1;have x0:_=some (Value.int .i64 (O q).id):=A1.c0 0 rfl;have x2:_=some (Value.int .i64 (O q).up):=A1.c0 2 rfl;have N1:=hid (HN.out.below b1);have B1:=then_ hB b1;have LK:=N1.out.map.look (x:=(O q).up) (HW.out q hlt).2;clear hcc hlt0;cases hf:findI (fun i=>(O i).id) k (O q).up with
     |none=>
      have NK:Hid (∀i,i<k→kidsTo (fun i=>(O i).id) (fun i=>(O i).up) (q+1) i=kidsTo (fun i=>(O i).id) (fun i=>(O i).up) q i):=hid (fun i hi=>kidsTo_no (fun e=>findI_none hf i hi e.symm));simp only[hf,Option.map_none]at LK;clear hf;go_wp2;exact⟨⟨q+1,kv,by omega,by go_num,hid (N1.out.same NK.out),B1⟩,by simp[intOf];omega⟩
     |some u=>
      obtain⟨hu,eu⟩:=findI_some hf;have EU:=hid eu;simp only[hf,Option.map_some]at LK;clear hf eu;have A2:=N1.out.blk u hu;have O2:=N1.out.own u hu;have hlen:=kidsTo_len (fun i=>(O i).id) (fun i=>(O i).up) q u;go_wp2;generalize wr.alloc n1=W at *;have y1:_=some (kv u):=A2.c0 1 rfl;have n2:Nw (W.alloc (.cells #[.int .i64 (O q).id] 2)):=⟨⟩;have bl:Below W.heap.size W ((n2:World).drew):=below_drew ((Below.refl _ W).alloc (Nat.le_refl _) _);have N2:=hid (N1.out.below bl);have l1:NumL ((n2:World).drew) (some ⟨W.heap.size,0,none⟩) [(O q).id]:=NumL.one (O q).id;have hB2:=then_ B1 bl;have OA:=hid (N2.out.own u hu);have HL:=hid l1;have lm:(kidsTo (fun i=>(O i).id) (fun i=>(O i).up) q u).length≤100000:=(by omega);have s1:=hB2.size;have A3:Hid (∀w3:World,((n2:World).drew).grownBy w3 (kv u).ownBlock→Blk w3 (nb u) (.cells #[.pointer (some ⟨ob,off+u*10,none⟩),kv u] 93)):=hid (fun w3 g3=>(g3.block (nb u) (N2.out.blk u hu).lt (own_ne (N2.out.own u hu) (N2.out.blk u hu) (by omega))).trans (N2.out.blk u hu));have FIN:Hid (∀(a3:Option Addr) (c3:Nat) (w3:World),OwnI w3 w.heap.size (.slice a3 ((kidsTo (fun i=>(O i).id) (fun i=>(O i).up) q u).length+1) c3) (kidsTo (fun i=>(O i).id) (fun i=>(O i).up) q u++[(O q).id])→((n2:World).drew).grownBy w3 (kv u).ownBlock→((Value.slice a3 ((kidsTo (fun i=>(O i).id) (fun i=>(O i).up) q u).length+1) c3).ownBlock=(kv u).ownBlock∨(Value.slice a3 ((kidsTo (fun i=>(O i).id) (fun i=>(O i).up) q u).length+1) c3).ownBlock=some ((n2:World).drew).heap.size)→
       ∃kv',Hid (Nodes (w3.setCell ⟨nb u,1,none⟩ (.slice a3 ((kidsTo (fun i=>(O i).id) (fun i=>(O i).up) q u).length+1) c3)) w.heap.size w.heap.size k (fun i=>(O i).id) ob off nb kv' (kidsTo (fun i=>(O i).id) (fun i=>(O i).up) (q+1)))∧Below w.heap.size w (w3.setCell ⟨nb u,1,none⟩ (.slice a3 ((kidsTo (fun i=>(O i).id) (fun i=>(O i).up) q u).length+1) c3))):=hid (fun a3 c3 w3 ho g3 v3=>by
       refine⟨_,hid ((N2.out.step hu ho g3 v3).same (fun i hi=>?_)),?_⟩
       ·split
        ·rename_i e;subst e;exact kidsTo_yes EU.out.symm
        ·rename_i e;exact kidsTo_no (fun e'=>e (HR.out.inj hi hu (by rw[←e'];exact EU.out.symm)))
       ·exact(hB2.trans (below_grown g3 hB2.size (fun j hj=>(World.ownsRow.lt (N2.out.own u hu) j hj).1))).setCell (N1.out.low u hu) _)
      have y1a:(n2:World).cell? ⟨nb u,1,none⟩=some (kv u):=(((Below.refl _ W).alloc (Nat.le_refl _) _).cell (p:=⟨nb u,1,none⟩) A2.lt).trans y1;have un:¬nb u=W.heap.size:=(by have:=A2.lt;omega);have pn:¬wr.heap.size=W.heap.size:=(by have:=A1.lt;omega);clear l1 bl b1 q0 q1 q2 q3 q4 q5 q6 q7 q8 q9 hlen A1 A2 O2 LK hB2;go_region_law((refine step_append_int (by rfl) _ _ (by rfl) w.heap.size (kv u) (kidsTo (fun i=>(O i).id) (fun i=>(O i).up) q u) (by rfl) OA.out _ 1 (O q).id (by rfl) HL.out lm s1 ?_;intro a3 c3 w3 O3 g3 v3;have Z:=hid (A3.out w3 g3);have z1:_=some (kv u):=Z.out.c0 1 rfl;have z2:=Z.out.warm 1;have O4:=hid O3;have G4:=hid g3;have V4:=hid v3;clear O3 g3 v3))
      all_goals(
       obtain⟨kv',nn,bb⟩:=FIN.out _ _ _ O4.out G4.out V4.out;clear FIN O4 G4 V4 Z z1 z2 A3 OA HL N2 N1 HN;go_wp2;exact⟨⟨q+1,kv',by omega,by go_num,nn,bb⟩,by simp[intOf];omega⟩)
    ·have e:q=k:=(by omega);subst e;have i1:¬(q:Int)<(q:Int):=(by omega);go_wp2;go_ret;exact⟨_,rfl,⟨_,_,HN.out⟩,hB⟩
section
variable {t e size bytes:Nat}{z:Value} (hT:Tryz.prog.underlying t=some (.slice e)) (hI:(Tryz.prog.info? e).map (fun i=>(i.zero,i.size,i.bytes))=some (some z,size,bytes)) (hzs:z.cells.size=size) (hsz:0<size)
include hT hI hzs hsz
theorem wpList_append_any{ops:Array Oper}{rest:List Oper}{o:Oper}{a:Act}{Q:Exit→Act→World→Prop}(w:World)(hgd:o.guard=none)(s x:Operand)
 (ho:o.op= .call {callee:= .builtin .append,args:=#[s,x],argTypes:=#[t,t]})
 (B:Nat)(v:Value)(n:Nat)(cs:List Value)(hs:a.eval s=v)(hown:w.ownsRow B e size v n cs)(ad:Option Addr)(m c:Nat)(cs':List Value)(hx:a.eval x= .slice ad m c)(hl:cs'.length=m*size)(hc:LiesC w ad m cs')(h1:∀u∈cs',u.oneCell'=true)
 (hm:n+m≤4194304)(hby:(n+m)*bytes≤140737488355328)(hB:B≤w.heap.size)
 (h:∀a' c' w',w'.ownsRow B e size (.slice a' (n+m) c') (n+m) (cs++cs')→w.grownBy w' v.ownBlock→wpList Tryz.prog ops Q rest (a.put o.dst (.slice a' (n+m) c')) w'):wpList Tryz.prog ops Q (o::rest) a w:=
 wpList_plain hgd fun _ hK=>wp_append_gen hT hI hzs hsz w s x ho B v n cs hs hown ad m c cs' hx hl hc h1 hm hby hB fun a' c' w' h2 h3 _=>hK _ _ (h a' c' w' h2 h3)
end
def CatL.new(B:Nat)(w:World)(c:CatL):Prop:=c.at w∧(0<c.n→∃b m F,c.a=some ⟨b,0,none⟩∧B≤b∧c.n*2≤m∧w.rowIs b 95 m F)
def IntL.new(B:Nat)(w:World)(c:IntL):Prop:=c.at w∧(0<c.n→∃b m F,c.a=some ⟨b,0,none⟩∧B≤b∧c.n≤m∧w.rowIs b 2 m F)
def StrL.new(B:Nat)(w:World)(c:StrL):Prop:=c.at w∧(0<c.n→∃b m F,c.a=some ⟨b,0,none⟩∧B≤b∧(c.n≤m∧m=c.k)∧w.rowIs b 9 m F)
theorem CatL.new.below{B:Nat}{w w':World}{c:CatL}(h:c.new B w)(hb:Below w.heap.size w w'):c.new B w':=⟨h.1.below hb,fun hn=>by
 obtain⟨b,m,F,e,h1,h2,h3⟩:=h.2 hn;exact⟨b,m,F,e,h1,h2,rowUp h3 hb⟩⟩
theorem IntL.new.below{B:Nat}{w w':World}{c:IntL}(h:c.new B w)(hb:Below w.heap.size w w'):c.new B w':=⟨h.1.below hb,fun hn=>by
 obtain⟨b,m,F,e,h1,h2,h3⟩:=h.2 hn;exact⟨b,m,F,e,h1,h2,rowUp h3 hb⟩⟩
theorem StrL.new.below{B:Nat}{w w':World}{c:StrL}(h:c.new B w)(hb:Below w.heap.size w w'):c.new B w':=⟨h.1.below hb,fun hn=>by
 obtain⟨b,m,F,e,h1,h2,h3⟩:=h.2 hn;exact⟨b,m,F,e,h1,h2,rowUp h3 hb⟩⟩
theorem CatL.new.low{B B':Nat}{w:World}{c:CatL}(h:c.new B w)(hB:B'≤B):c.new B' w:=⟨h.1,fun hn=>by
 obtain⟨b,m,F,e,h1,h2,h3⟩:=h.2 hn;exact⟨b,m,F,e,by omega,h2,h3⟩⟩
theorem IntL.new.low{B B':Nat}{w:World}{c:IntL}(h:c.new B w)(hB:B'≤B):c.new B' w:=⟨h.1,fun hn=>by
 obtain⟨b,m,F,e,h1,h2,h3⟩:=h.2 hn;exact⟨b,m,F,e,by omega,h2,h3⟩⟩
theorem StrL.new.low{B B':Nat}{w:World}{c:StrL}(h:c.new B w)(hB:B'≤B):c.new B' w:=⟨h.1,fun hn=>by
 obtain⟨b,m,F,e,h1,h2,h3⟩:=h.2 hn;exact⟨b,m,F,e,by omega,h2,h3⟩⟩
theorem row_of_own{w:World}{B e size n c:Nat}{a:Option Addr}{cs:List Value}(h:w.ownsRow B e size (.slice a n c) n cs)(hn:0<n):∃b m F,a=some ⟨b,0,none⟩∧B≤b∧n*size≤m∧w.rowIs b e m F:=by
 rcases h.2 with⟨_,h0⟩|⟨g,cap,cur,hv,h1,h2,h3,h4,h5,h6⟩
 ·omega
 ·simp only[Value.slice.injEq]at hv;obtain⟨rfl,_,rfl⟩:=hv;exact⟨g,cur.size,fun i=>cur[i]?.getD undef,rfl,h1,by rw[h5];exact Nat.mul_le_mul_right _ h3,⟨cur,h2,rfl,fun i hi=>by simp[hi]⟩⟩
theorem row_of_ownS{w:World}{B e n c:Nat}{a:Option Addr}{cs:List Value}(h:w.ownsRow B e 1 (.slice a n c) n cs)(hn:0<n):∃b m F,a=some ⟨b,0,none⟩∧B≤b∧(n≤m∧m=c)∧w.rowIs b e m F:=by
 rcases h.2 with⟨_,h0⟩|⟨g,cap,cur,hv,h1,h2,h3,h4,h5,h6⟩
 ·omega
 ·simp only[Value.slice.injEq]at hv;obtain⟨rfl,_,rfl⟩:=hv;exact⟨g,cur.size,fun i=>cur[i]?.getD undef,rfl,h1,⟨by rw[h5];omega,by rw[h5];omega⟩,⟨cur,h2,rfl,fun i hi=>by simp[hi]⟩⟩
theorem cats_lies{w:World}{a:Option Addr}{n:Nat}{f g:Nat→Int}(h:CatsAt w a n f g):LiesC w a n (catCells f g n):=fun hn=>by
 obtain⟨b,off,e,hlt,hc⟩:=h hn;refine⟨b,off,e,hlt,fun j u hu=>?_⟩;by_cases hj:j<n*2
 ·rw[catCells_get _ _ _ _ hj]at hu;have hu':=Option.some.inj hu;rw[←hu'];obtain⟨c0,c1⟩:=hc (j/2) (by omega);unfold pairCell;by_cases e2:j%2=0
  ·rw[if_pos e2,←c0];congr 2;omega
  ·rw[if_neg e2,←c1];congr 2;omega
 ·rw[List.getElem?_eq_none (by rw[catCells_length];omega)]at hu;cases hu
theorem strs_lies{w:World}{a:Option Addr}{n:Nat}{f:Nat→ByteArray}(h:StrAt w a n f):LiesC w a n ((List.range n).map (fun i=>Value.string (f i))):=fun hn=>by
 obtain⟨b,off,e,hlt,hc⟩:=h hn;refine⟨b,off,e,hlt,fun j u hu=>?_⟩;by_cases hj:j<n
 ·simp[hj]at hu;rw[←hu];exact hc j hj
 ·simp[hj]at hu
theorem copiedCat_any(c:CatL)(w:World)(hc:c.at w)(hn:c.n≤1048576):
 Calls Tryz.prog 129 #[c.val] w fun e w'=>∃d:CatL,e= .returned d.val∧c.same d∧d.new w.heap.size w'∧Below w.heap.size w w':=by
 obtain⟨a,n,cap,f,g⟩:=c;obtain⟨hm,hc⟩:=hc;unfold CatL.val;simp only at hm hc hn ⊢;have L:=hid (cats_lies hc);clear hc;go_enter Tryz.func129,Tryz.ntmps129
 go_wp2_with(refine wpList_append_any Tryz.underlying28 Tryz.info95 rfl (by omega) _ rfl _ _ rfl w.heap.size (.slice none 0 0) 0 [] rfl (World.ownsRow_nil _ _ _ _) a n cap (catCells f g n) rfl (by simp[catCells]) L.out (catCells_one f g n) (by omega) (by omega) (Nat.le_refl _) ?_;intro a3 c3 w3 o3 g3;rw[Nat.zero_add,List.nil_append]at o3;rw[Nat.zero_add])
 go_ret;have hr:OwnCats w3 w.heap.size (.slice a3 n c3) n f g:=o3;exact⟨⟨a3,n,c3,f,g⟩,rfl,⟨rfl,rfl,rfl⟩,⟨⟨hm,hr.cats⟩,fun h0=>row_of_own o3 h0⟩,below_grown g3 (Nat.le_refl _) (fun j hj=>by cases hj)⟩
theorem copiedInt_any(c:IntL)(w:World)(hc:c.at w)(hn:c.n≤1048576):
 Calls Tryz.prog 93 #[c.val] w fun e w'=>∃d:IntL,e= .returned d.val∧c.same d∧d.new w.heap.size w'∧Below w.heap.size w w':=by
 obtain⟨a,n,cap,f⟩:=c;obtain⟨hm,hc⟩:=hc;unfold IntL.val;simp only at hm hc hn ⊢;have L0:=hc.intL;have el:((List.range n).map f).length=n:=by simp
 have L:Hid (LiesC w a n (((List.range n).map f).map (Value.int .i64))):=hid (by unfold NumL at L0;rw[el]at L0;exact L0);clear hc L0;go_enter Tryz.func93,Tryz.ntmps93
 go_wp2_with(refine wpList_append_any Tryz.underlying40 Tryz.info2 rfl (by omega) _ rfl _ _ rfl w.heap.size (.slice none 0 0) 0 [] rfl (World.ownsRow_nil _ _ _ _) a n cap (((List.range n).map f).map (Value.int .i64)) rfl (by simp) L.out (fun u hu=>by obtain⟨y,_,rfl⟩:=List.mem_map.1 hu;rfl) (by omega) (by omega) (Nat.le_refl _) ?_;intro a3 c3 w3 o3 g3;rw[Nat.zero_add,List.nil_append]at o3;rw[Nat.zero_add])
 go_ret;have ho:OwnI w3 w.heap.size (.slice a3 ((List.range n).map f).length c3) ((List.range n).map f):=by unfold OwnI;rw[el];exact o3
 have hi:IntsAt w3 a3 n f:=fun h0=>by
  obtain⟨b,off,e,hlt,hcc⟩:=(OwnI.lies ho).ints (by rw[el];exact h0);refine⟨b,off,e,hlt,fun i hi=>?_⟩;have:=hcc i (by rw[el];exact hi);rw[this];simp[nthI,hi]
 exact⟨⟨a3,n,c3,f⟩,rfl,⟨rfl,rfl⟩,⟨⟨hm,hi⟩,fun h0=>by have:=row_of_own o3 h0;simpa using this⟩,below_grown g3 (Nat.le_refl _) (fun j hj=>by cases hj)⟩
theorem copiedStr_any(c:StrL)(w:World)(hc:c.at w)(hn:c.n≤1048576):
 Calls Tryz.prog 94 #[c.val] w fun e w'=>∃d:StrL,e= .returned d.val∧c.same d∧d.new w.heap.size w'∧Below w.heap.size w w':=by
 obtain⟨a,n,cap,f⟩:=c;obtain⟨hm,hc,hz⟩:=hc;unfold StrL.val;simp only at hm hc hn hz ⊢;have L:=hid (strs_lies hc);have HZ:=hid hz;clear hc hz;go_enter Tryz.func94,Tryz.ntmps94
 go_wp2_with(refine wpList_append_any Tryz.underlying45 Tryz.info9 rfl (by omega) _ rfl _ _ rfl w.heap.size (.slice none 0 0) 0 [] rfl (World.ownsRow_nil _ _ _ _) a n cap ((List.range n).map (fun i=>Value.string (f i))) rfl (by simp) L.out (fun u hu=>by obtain⟨y,_,rfl⟩:=List.mem_map.1 hu;rfl) (by omega) (by omega) (Nat.le_refl _) ?_;intro a3 c3 w3 o3 g3;rw[Nat.zero_add,List.nil_append]at o3;rw[Nat.zero_add])
 go_ret;have hi:StrAt w3 a3 n f:=fun h0=>by
  obtain⟨b,off,e,hlt,hcc⟩:=LiesC.own o3 h0;exact⟨b,off,e,hlt,fun i hi=>hcc i _ (by simp[hi])⟩
 exact⟨⟨a3,n,c3,f⟩,rfl,⟨rfl,rfl⟩,⟨⟨hm,hi,HZ.out⟩,fun h0=>row_of_ownS o3 h0⟩,below_grown g3 (Nat.le_refl _) (fun j hj=>by cases hj)⟩
theorem CatL.new.of{B:Nat}{w w':World}{c:CatL}(h:c.new B w)(hs:w.heap.size≤w'.heap.size)(hb:∀b,c.a=some ⟨b,0,none⟩→0<c.n→w'.heap[b]? =w.heap[b]?):c.new B w':=
 ⟨⟨h.1.1,fun hn=>by
   obtain⟨b,off,e,hlt,hc⟩:=h.1.2 hn;obtain⟨b',_,_,e',_⟩:=h.2 hn;have eb:=e.symm.trans e';cases eb;have ce:∀o,w'.cell? ⟨b,o,none⟩=w.cell? ⟨b,o,none⟩:=fun o=>World.cell?_of_block (a:=⟨b,o,none⟩) (hb b e' hn);exact⟨b,0,e,Nat.lt_of_lt_of_le hlt hs,fun i hi=>by rw[ce,ce];exact hc i hi⟩⟩,fun hn=>by
   obtain⟨b,m,F,e,h1,h2,h3⟩:=h.2 hn;exact⟨b,m,F,e,h1,h2,h3.of_block (hb b e hn)⟩⟩
theorem CatL.new.ne{B:Nat}{w:World}{c:CatL}(h:c.new B w){P t:Nat}{cs:Array Value}(hP:Blk w P (.cells cs t))(ht:t≠95):∀b,c.a=some ⟨b,0,none⟩→0<c.n→b≠P:=fun b e hn=>by
 obtain⟨b',m,F,e',_,_,h3⟩:=h.2 hn;rw[e]at e';cases e';exact row_ne h3 hP.row (fun e=>ht e.symm)
theorem IntL.new.of{B:Nat}{w w':World}{c:IntL}(h:c.new B w)(hs:w.heap.size≤w'.heap.size)(hb:∀b,c.a=some ⟨b,0,none⟩→0<c.n→w'.heap[b]? =w.heap[b]?):c.new B w':=
 ⟨⟨h.1.1,fun hn=>by
   obtain⟨b,off,e,hlt,hc⟩:=h.1.2 hn;obtain⟨b',_,_,e',_⟩:=h.2 hn;have eb:=e.symm.trans e';cases eb;have ce:∀o,w'.cell? ⟨b,o,none⟩=w.cell? ⟨b,o,none⟩:=fun o=>World.cell?_of_block (a:=⟨b,o,none⟩) (hb b e' hn);exact⟨b,0,e,Nat.lt_of_lt_of_le hlt hs,fun i hi=>by rw[ce];exact hc i hi⟩⟩,fun hn=>by
   obtain⟨b,m,F,e,h1,h2,h3⟩:=h.2 hn;exact⟨b,m,F,e,h1,h2,h3.of_block (hb b e hn)⟩⟩
theorem IntL.new.ne{B:Nat}{w:World}{c:IntL}(h:c.new B w){P t:Nat}{cs:Array Value}(hP:Blk w P (.cells cs t))(ht:t≠2):∀b,c.a=some ⟨b,0,none⟩→0<c.n→b≠P:=fun b e hn=>by
 obtain⟨b',m,F,e',_,_,h3⟩:=h.2 hn;rw[e]at e';cases e';exact row_ne h3 hP.row (fun e=>ht e.symm)
theorem StrL.new.of{B:Nat}{w w':World}{c:StrL}(h:c.new B w)(hs:w.heap.size≤w'.heap.size)(hb:∀b,c.a=some ⟨b,0,none⟩→0<c.n→w'.heap[b]? =w.heap[b]?):c.new B w':=
 ⟨⟨h.1.1,fun hn=>by
   obtain⟨b,off,e,hlt,hc⟩:=h.1.2.1 hn;obtain⟨b',_,_,e',_⟩:=h.2 hn;have eb:=e.symm.trans e';cases eb;have ce:∀o,w'.cell? ⟨b,o,none⟩=w.cell? ⟨b,o,none⟩:=fun o=>World.cell?_of_block (a:=⟨b,o,none⟩) (hb b e' hn);exact⟨b,0,e,Nat.lt_of_lt_of_le hlt hs,fun i hi=>by rw[ce];exact hc i hi⟩,h.1.2.2⟩,fun hn=>by
   obtain⟨b,m,F,e,h1,h2,h3⟩:=h.2 hn;exact⟨b,m,F,e,h1,h2,h3.of_block (hb b e hn)⟩⟩
theorem StrL.new.ne{B:Nat}{w:World}{c:StrL}(h:c.new B w){P t:Nat}{cs:Array Value}(hP:Blk w P (.cells cs t))(ht:t≠9):∀b,c.a=some ⟨b,0,none⟩→0<c.n→b≠P:=fun b e hn=>by
 obtain⟨b',m,F,e',_,_,h3⟩:=h.2 hn;rw[e]at e';cases e';exact row_ne h3 hP.row (fun e=>ht e.symm)
theorem results73(tmps:Array Value)(W:World)(P:Nat)(x y:Value)(h:Blk W P (.cells #[x,y] 30))(h2:tmps[2]? =some (.pointer (some ⟨P,0,none⟩))):
 (results Tryz.f92 tmps).run Tryz.prog W= .ok (.agg #[x,y]) W:=by
 obtain⟨z0,z1⟩:=h.two;simp[results,Tryz.results92,go_sem,h2,z0,z1]
theorem copiedLabel_any(b:Int)(c:CatL)(w:World)(hc:c.at w)(hn:c.n≤1048576):
 Calls Tryz.prog 92 #[.agg #[.int .i64 b,c.val]] w fun e w'=>∃d:CatL,e= .returned (.agg #[.int .i64 b,d.val])∧c.same d∧d.new w.heap.size w'∧Below w.heap.size w w':=by
 have n3:No (.cells #[.int .i64 0,.slice none 0 0] 30):=⟨⟩;have n4:No (.cells #[.int .i64 b,c.val] 30):=⟨⟩;have b0:Below w.heap.size w ((w.alloc n4).alloc n3):=((Below.refl _ w).alloc (Nat.le_refl _) _).alloc (by simp) _;have A0:=(Blk.new w n4).alloc n3;have R0:Blk ((w.alloc n4).alloc n3) (w.heap.size+1) n3:=by
  have:=Blk.new (w.alloc n4) n3;simpa using this
 have C1:=hid (copiedCat_any c _ (hc.below b0) hn);obtain⟨x0,x1⟩:=A0.two;clear hc;go_enter Tryz.func92,Tryz.ntmps92
 go_wp2_with fail
 refine C1.out.mono ?_;rintro e w1 ⟨d,rfl,hs,hd,hb1⟩;have A1:=A0.below hb1;have R1:=R0.below hb1;have B1:=then_ b0 hb1;have HD:=hid (hd.low b0.size);have HS:=hid hs;obtain⟨x0',x1'⟩:=A1.two;obtain⟨y0,y1⟩:=R1.two;have xf:=A1.warm;have yf:=R1.warm;have ne1:¬w.heap.size=w.heap.size+1:=by omega
 have ne2:¬w.heap.size+1=w.heap.size:=by omega
 clear hs hd C1 x0 x1 A0 R0 b0 hb1;unfold CatL.val at x1' ⊢;go_wp2;refine bodyPost_ret (results73 _ _ (w.heap.size+1) (.int .i64 b) (.slice d.a d.n d.k) (((R1.other (Q:=w.heap.size) (i:=1) (by omega) _).setAt (i:=0) _).setAt (i:=1) _) rfl) rfl ⟨d,rfl,HS.out,?_,?_⟩
 ·refine HD.out.of (by simp) (fun g hg hn'=>?_);have n1:=HD.out.ne A1 (by decide) g hg hn';have n2:=HD.out.ne R1 (by decide) g hg hn';rw[blk_setCell_other _ _ _ _ (by dsimp only;omega),blk_setCell_other _ _ _ _ (by dsimp only;omega),blk_setCell_other _ _ _ _ (by dsimp only;omega)]
 ·exact((B1.setCell (by dsimp only;omega) _).setCell (by dsimp only;omega) _).setCell (by dsimp only;omega) _
open Go.BigFrame Go.Shelf
theorem step_call{ops:Array Oper}{o:Oper}{a:Act}{w:World}{K:Act→World→Prop}{Q:Exit→Act→World→Prop}{E:Prop}(hgd:o.guard=none)(f:Nat)(x:Operand)(ats:Array TypeId)
 (ho:o.op= .call {callee:= .value (.func f),args:=#[x],argTypes:=ats})(eg:∀args w,(callFunc f args).run Tryz.prog w= .ok (.enter f args) w)(v0:Value)(hv:a.eval x=v0)
 (R:Value→World→Prop)(hc:Calls Tryz.prog f #[v0] w fun e w'=>∃v,e= .returned v∧R v w')(h:∀v w',R v w'→K (a.put o.dst v) w'):
 if Region.wanted o (yielded ops a.tmps)=true then Oper.wp Tryz.prog o a w K Q else E:=by
 have hw:Region.wanted o (yielded ops a.tmps)=true:=by simp[Region.wanted,hgd]
 rw[if_pos hw];have e:(execOp a.eval o).run Tryz.prog w= .ok (.enter f #[v0]) w:=by
  unfold execOp;simp only[ho,resolve,invoke,Sem.run_bind,List.map_toArray,List.map_cons,List.map_nil,hv];simp[go_sem,eg,Act.eval]
 unfold Oper.wp;rw[e,Oper.upon_enter];exact hc.mono fun e w' ⟨v,he,hr⟩=>by subst he;exact h v w' hr
def ThrV.new(B:Nat)(w:World)(t:ThrV):Prop:=t.c1.new B w∧t.c2.new B w∧t.own.new B w
def ThrV.apart(t:ThrV):Prop:=∀b b',t.c1.a=some ⟨b,0,none⟩→0<t.c1.n→t.c2.a=some ⟨b',0,none⟩→0<t.c2.n→b≠b'
theorem Blk.seven{W:World}{P t:Nat}{x0 x1 x2 x3 x4 x5 x6:Value}(h:Blk W P (.cells #[x0,x1,x2,x3,x4,x5,x6] t)):W.cell? ⟨P,0,none⟩=some x0∧W.cell? ⟨P,1,none⟩=some x1∧W.cell? ⟨P,2,none⟩=some x2∧W.cell? ⟨P,3,none⟩=some x3∧W.cell? ⟨P,4,none⟩=some x4∧W.cell? ⟨P,5,none⟩=some x5∧W.cell? ⟨P,6,none⟩=some x6:=by
 unfold Blk at h;simp[World.cell?,h]
theorem results59(tmps:Array Value)(W:World)(P:Nat)(x0 x1 x2 x3 x4 x5 x6:Value)(h:Blk W P (.cells #[x0,x1,x2,x3,x4,x5,x6] 42))(h2:tmps[2]? =some (.pointer (some ⟨P,0,none⟩))):
 (results Tryz.f51 tmps).run Tryz.prog W= .ok (.agg #[x0,x1,x2,x3,x4,x5,x6]) W:=by
 obtain⟨z0,z1,z2,z3,z4,z5,z6⟩:=h.seven;simp[results,Tryz.results51,go_sem,h2,z0,z1,z2,z3,z4,z5,z6]
theorem Blk.all7{W:World}{P t:Nat}{z0 z1 z2 z3 z4 z5 z6:Value}(h:Blk W P (.cells #[z0,z1,z2,z3,z4,z5,z6] t))(x0 x1 x2 x3 x4 x5 x6:Value):
 Blk (((((((W.setCell ⟨P,0,none⟩ x0).setCell ⟨P,1,none⟩ x1).setCell ⟨P,2,none⟩ x2).setCell ⟨P,3,none⟩ x3).setCell ⟨P,4,none⟩ x4).setCell ⟨P,5,none⟩ x5).setCell ⟨P,6,none⟩ x6) P (.cells #[x0,x1,x2,x3,x4,x5,x6] t):=by
 have h0:Blk (W.setCell ⟨P,0,none⟩ x0) P (.cells #[x0,z1,z2,z3,z4,z5,z6] t):=h.setAt (i:=0) x0;have h1:Blk ((W.setCell ⟨P,0,none⟩ x0).setCell ⟨P,1,none⟩ x1) P (.cells #[x0,x1,z2,z3,z4,z5,z6] t):=h0.setAt (i:=1) x1;have h2:Blk (((W.setCell ⟨P,0,none⟩ x0).setCell ⟨P,1,none⟩ x1).setCell ⟨P,2,none⟩ x2) P (.cells #[x0,x1,x2,z3,z4,z5,z6] t):=h1.setAt (i:=2) x2;have h3:Blk ((((W.setCell ⟨P,0,none⟩ x0).setCell ⟨P,1,none⟩ x1).setCell ⟨P,2,none⟩ x2).setCell ⟨P,3,none⟩ x3) P (.cells #[x0,x1,x2,x3,z4,z5,z6] t):=h2.setAt (i:=3) x3;have h4:Blk (((((W.setCell ⟨P,0,none⟩ x0).setCell ⟨P,1,none⟩ x1).setCell ⟨P,2,none⟩ x2).setCell ⟨P,3,none⟩ x3).setCell ⟨P,4,none⟩ x4) P (.cells #[x0,x1,x2,x3,x4,z5,z6] t):=h3.setAt (i:=4) x4;have h5:Blk ((((((W.setCell ⟨P,0,none⟩ x0).setCell ⟨P,1,none⟩ x1).setCell ⟨P,2,none⟩ x2).setCell ⟨P,3,none⟩ x3).setCell ⟨P,4,none⟩ x4).setCell ⟨P,5,none⟩ x5) P (.cells #[x0,x1,x2,x3,x4,x5,z6] t):=h4.setAt (i:=5) x5;exact h5.setAt (i:=6) x6
end Go.Proofs.YtallmkehpfaaeaaGreatDoor
