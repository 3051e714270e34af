import Derived.Test.YtdaccbddcjlkpaaGreatDoorZ2p
set_option maxRecDepth 100000
set_option maxHeartbeats 8000000
namespace Go.Proofs.YtdaccbddcjlkpaaGreatDoor
open Go Go.RowKit Go.Deep Go.Maps Go.BigFrame Go.Shelf Go.Proofs.Tryz
open Go.Obj renaming cells→qG
open Go.Region renaming wanted→jU
variable {W:World}{P t:Nat}
def EJ{ops:Array Oper}{o:Oper}{a:Act}{w:World}{K:Act->World->Prop}{Q:Exit->Act->World->Prop}{E:Prop}(hgd:o.guard=none)(f:Nat)(x:Operand)(ats:Array TypeId)
 (ho:o.op= .call {callee:= .value (.func f),args:=#[x],argTypes:=ats})(eg:∀args w,(callFunc f args).run prog w= .ok (.enter f args) w)(v0:Value)(hv:a.eval x=v0)
 (R:Value->World->Prop)(hc:Calls prog f #[v0] w fun e w'=>∃v,e= .returned v/\R v w')(h:∀v w',R v w'->K (a.put o.dst v) w'):
 if jU o (yielded ops a.tmps)=true then Oper.wp prog o a w K Q else E:=by
 have hw:jU o (yielded ops a.tmps)=true:=by simp[jU,hgd]
 rw[if_pos hw];have e:(execOp a.eval o).run prog w= .ok (.enter f #[v0]) w:=by
  unfold execOp;simp only[ho,resolve,invoke,Sem.run_bind,List.map_toArray,List.map_cons,List.map_nil,hv];simp[go_sem,eg,Act.eval]
 unfold Oper.wp;rw[e,Oper.upon_enter];exact hc.mono fun e w' ⟨v,he,hr⟩=>by subst he;exact h v w' hr
def Ae.new(B:Nat)(w:World)(t:Ae):Prop:=t.c1.new B w/\t.c2.new B w/\t.own.new B w
def Ae.apart(t:Ae):Prop:=∀b b',t.c1.a=some ⟨b,0,none⟩->0<t.c1.n->t.c2.a=some ⟨b',0,none⟩->0<t.c2.n->b≠b'
def Ag.seven{x0 x1 x2 x3 x4 x5 x6:Value}(h:Ag W P (qG #[x0,x1,x2,x3,x4,x5,x6] t)):W.cell? ⟨P,0,none⟩=some x0/\W.cell? ⟨P,1,none⟩=some x1/\W.cell? ⟨P,2,none⟩=some x2/\W.cell? ⟨P,3,none⟩=some x3/\W.cell? ⟨P,4,none⟩=some x4/\W.cell? ⟨P,5,none⟩=some x5/\W.cell? ⟨P,6,none⟩=some x6:=by
 unfold Ag at h;simp[World.cell?,h]
def Yf(tmps:Array Value)(W:World)(P:Nat)(x0 x1 x2 x3 x4 x5 x6:Value)(h:Ag W P (qG #[x0,x1,x2,x3,x4,x5,x6] 53))(h2:tmps[2]? =some (.pointer P)):
 (results Tryz.f39 tmps).run prog W= .ok (.agg #[x0,x1,x2,x3,x4,x5,x6]) W:=by
 obtain⟨z0,z1,z2,z3,z4,z5,z6⟩:=h.seven;simp[results,Tryz.results39,go_sem,h2,z0,z1,z2,z3,z4,z5,z6]
def Ag.all7{z0 z1 z2 z3 z4 z5 z6:Value}(h:Ag W P (qG #[z0,z1,z2,z3,z4,z5,z6] t))(x0 x1 x2 x3 x4 x5 x6:Value):
 Ag (((((((W.setCell ⟨P,0,none⟩ x0).setCell ⟨P,1,none⟩ x1).setCell ⟨P,2,none⟩ x2).setCell ⟨P,3,none⟩ x3).setCell ⟨P,4,none⟩ x4).setCell ⟨P,5,none⟩ x5).setCell ⟨P,6,none⟩ x6) P (qG #[x0,x1,x2,x3,x4,x5,x6] t):=by
 have h0:Ag (W.setCell ⟨P,0,none⟩ x0) P (qG #[x0,z1,z2,z3,z4,z5,z6] t):=h.jB (i:=0) x0;have h1:Ag ((W.setCell ⟨P,0,none⟩ x0).setCell ⟨P,1,none⟩ x1) P (qG #[x0,x1,z2,z3,z4,z5,z6] t):=h0.jB (i:=1) x1;have h2:Ag (((W.setCell ⟨P,0,none⟩ x0).setCell ⟨P,1,none⟩ x1).setCell ⟨P,2,none⟩ x2) P (qG #[x0,x1,x2,z3,z4,z5,z6] t):=h1.jB (i:=2) x2;have h3:Ag ((((W.setCell ⟨P,0,none⟩ x0).setCell ⟨P,1,none⟩ x1).setCell ⟨P,2,none⟩ x2).setCell ⟨P,3,none⟩ x3) P (qG #[x0,x1,x2,x3,z4,z5,z6] t):=h2.jB (i:=3) x3;have h4:Ag (((((W.setCell ⟨P,0,none⟩ x0).setCell ⟨P,1,none⟩ x1).setCell ⟨P,2,none⟩ x2).setCell ⟨P,3,none⟩ x3).setCell ⟨P,4,none⟩ x4) P (qG #[x0,x1,x2,x3,x4,z5,z6] t):=h3.jB (i:=4) x4;have h5:Ag ((((((W.setCell ⟨P,0,none⟩ x0).setCell ⟨P,1,none⟩ x1).setCell ⟨P,2,none⟩ x2).setCell ⟨P,3,none⟩ x3).setCell ⟨P,4,none⟩ x4).setCell ⟨P,5,none⟩ x5) P (qG #[x0,x1,x2,x3,x4,x5,z6] t):=h4.jB (i:=5) x5;exact h5.jB (i:=6) x6
open _root_.ByteArray renaming mk→qD
def Ab.new(B:Nat)(w:World)(t:Ab):Prop:=t.c1.new B w/\t.jA.new B w/\t.own.new B w/\t.c2.new B w
def Ab.apart(t:Ab):Prop:=∀b b',t.c1.a=some ⟨b,0,none⟩->0<t.c1.n->t.c2.a=some ⟨b',0,none⟩->0<t.c2.n->b≠b'
def YA(tmps:Array Value)(W:World)(P:Nat)(x0 x1 x2 x3 x4 x5 x6 x7 x8 x9:Value)(h:Ag W P (.cells #[x0,x1,x2,x3,x4,x5,x6,x7,x8,x9] 59))(h2:tmps[2]? =some (.pointer P)):
 (results Tryz.f40 tmps).run prog W= .ok (.agg #[x0,x1,x2,x3,x4,x5,x6,x7,x8,x9]) W:=by
 obtain⟨z0,z1,z2,z3,z4,z5,z6,z7,z8,z9⟩:=h.jE;simp[results,Tryz.results40,go_sem,h2,z0,z1,z2,z3,z4,z5,z6,z7,z8,z9]
def FJ:Obj:= .cells #[.int .i64 0,.int .i64 0,.int .i64 0,.int .i64 0,.slice none 0 0,.string (qD #[]),.slice none 0 0,.slice none 0 0,.int .i64 0,.slice none 0 0] 59
open Go.Value renaming pointer→pT
open Go.World renaming ownsRow→qq
open _root_.List renaming length_append→jG,length_map→kJ,length_cons→kN
open Go renaming World→qM
def Oy(N:Nat):Value:= .func (.func 107) #[] #[pT (some ⟨N+1,0,none⟩),pT N,pT (some ⟨N+1+1,0,none⟩)]
structure MH(w0:qM)(c:Nat)(w:qM)(v:Value)(l:List Int):Prop where
 b:Below w0 w0 w
 q:Ag w w0 (.cells #[.map (some c)] 109)
 p:Ag w (w0.heap.size+1) (.cells #[v] 51)
 r:Ag w (w0.heap.size+1+1) (.cells #[Oy w0.heap.size] 161)
 o:AI w (w0.heap.size+1+1+1) v l
def Ag.grown{w w':qM}{P:Nat}{o:Obj}{row:Option Nat}(h:Ag w P o)(hg:w.grownBy w' row)(hne:some P≠row):Ag w' P o:=(hg.block P h.lt hne).trans h
def MH.push{w0 w w':qM}{c:Nat}{v v':Value}{l:List Int}{x:Int}(h:MH w0 c w v l)(ho:AI w' (w0.heap.size+1+1+1) v' (l++[x]))(hg:(w.alloc (.cells #[.int .i64 x] 2)).grownBy w' v.ownBlock):
 MH w0 c (w'.setCell ⟨w0.heap.size+1,0,none⟩ v') v' (l++[x]):=by
 have b1:Below w w (w.alloc (.cells #[.int .i64 x] 2)):=Bg w _;have hne:∀k,k<w0.heap.size+1+1+1->some k≠v.ownBlock:=fun k hk e=>by have:=(qq.lt h.o k e.symm).1;omega
 have p1:=(h.p.below b1).grown hg (hne _ qQ);have q1:=(h.q.below b1).grown hg (hne _ qQ);have r1:=(h.r.below b1).grown hg (hne _ qQ);refine⟨?_,q1.other qQ _,?_,r1.other qQ _,?_⟩
 ·exact((h.b.trans (b1.mono h.b.size)).trans (below_grown hg (by have:=h.q.lt;simp;omega) (fun j hj=>by have:=(qq.lt h.o j hj).1;omega))).setCell qJ _
 ·simpa using p1.jB (i:=0) v'
 ·exact qq.kept ho (row:=some (w0.heap.size+1)) ⟨rfl,rfl,rfl,by rw[nblk_setCell];exact Nat.le_refl _,fun j hj hne=>blk_setCell_other _ _ _ _ (by dsimp only;intro e;exact hne (by rw[e]))⟩ (.inr (fun e=>by have:=(qq.lt ho _ e).1;omega))
def IZ(ids ups:Nat->Int)(n i:Nat):BZ ids ups n i=(DU ids ups n i).map ids:=rfl
def ZY(l:List Nat)(f:Nat->List Nat)(j:Nat)(hj:j<l.length):((l.take j).flatMap f).length+(f l[j]).length<=(l.flatMap f).length:=by
 have e:l=l.take j++(l[j]::l.drop (j+1)):=by simp
 have:l.flatMap f=(l.take j).flatMap f++(f l[j]++(l.drop (j+1)).flatMap f):=by
  conv=>lhs;rw[e]
  rw[List.flatMap_append,List.flatMap_cons]
 rw[this,jG,jG];omega
def YY(w0:qM)(B c n:Nat)(ids ups:Nat->Int)(ob off:Nat)(nb:Nat->Nat)(kv:Nat->Value)(hN:Ei w0 B c n ids ob off nb kv (BZ ids ups n))(hr:DK ids n)(h0:∀j,j<n->ids j≠ups 0)
 (hw:∀i,i<n->(Lit.int .i64 (ids i)).wf=true)(hn:n<=271)(f:Nat):
 ∀(i:Nat) (l:List Int) (v:Value) (w:qM),i<n->(∀j m,j<n->Bt ids ups n m j=some i->m<f)->l.length+(Gk ids ups n f i).length<=271->MH w0 c w v l->
  Calls prog 107 #[.int .i64 (ids i),pT (some ⟨w0.heap.size+1,0,none⟩),pT (w0),pT (some ⟨w0.heap.size+1+1,0,none⟩)] w fun e w'=>
   ∃v',e= .returned (.tuple #[])/\MH w0 c w' v' (l++(Gk ids ups n f i).map ids):=by
 have HN:=qC hN;have HR:=qC hr;have H0:=qC h0;have HW:=qC hw;clear hN hr h0 hw;induction f with
 |zero=>intro i l v w hi hh;exact absurd (hh i 0 hi rfl) qQ
 |succ f ih=>
  intro i l v w hi hh hl hk;have IH:=qC ih;have HH:=qC hh;have HK:=qC hk;have hlen:l.length+1<=271:=by simp[Gk]at hl;omega
  have HL:=qC hl;clear ih hh hk hl;have x1:_=some v:=HK.out.p.c0 0 rfl;have L1:=qC (Ec.one (w:=w) (ids i));have n1:Nw (w.alloc (.cells #[.int .i64 (ids i)] 2)):=⟨⟩;have b1:Below w w n1:=Bg w _;have O1:Hid (AI n1 (w0.heap.size+1+1+1) v l):=qC (AI.alloc HK.out.o _);have hs:=HK.out.r.lt;have s1:w0.heap.size+1+1+1<=(n1:qM).heap.size:=by simp;omega
  have P1:Hid (∀w':qM,(n1:qM).grownBy w' v.ownBlock->Ag w' (w0.heap.size+1) (.cells #[v] 51)):=qC (fun w' hg=>(HK.out.p.below b1).grown hg (fun e=>by have:=(qq.lt HK.out.o _ e.symm).1;omega));clear b1;obtain⟨ka,kc,hkv⟩:=CG (HN.out.own i hi);have KV:=qC hkv;clear hkv;have D3:Hid (∀(a3:Option Addr) (c3:Nat) (w3:qM),AI w3 (w0.heap.size+1+1+1) (.slice a3 (l++[ids i]).length c3) (l++[ids i])->(n1:qM).grownBy w3 v.ownBlock->
   MH w0 c (w3.setCell ⟨w0.heap.size+1,0,none⟩ (.slice a3 (l.length+1) c3)) (.slice a3 (l.length+1) c3) (l++[ids i])):=qC (fun a3 c3 w3 o3 g3=>HK.out.push (by simpa using o3) g3)
  have E3:Hid (∀(W:qM) (v':Value) (l':List Int),MH w0 c W v' l'->W.cell? ⟨w0,0,none⟩=some (.map (some c))/\(Instr.lookup 109 (.map (some c)) (.int .i64 (ids i)) false).run prog W= .ok (pT (nb i)) W/\W.cell? ⟨nb i,1,none⟩=some (.slice ka (BZ ids ups n i).length kc)):=qC (fun W v' l' hk=>by
   have N2:=HN.out.below hk.b;have LK:=N2.map.look (HW i hi);rw[Eg HR.out hi]at LK;exact⟨hk.q.c0 0 rfl,LK,by rw[<-KV.out];exact(N2.blk i hi).c0 1 rfl⟩)
  have hm:(BZ ids ups n i).length<=271:=by have:=Li ids ups n i;omega
  go_enter func107,ntmps107
  go_wp2_with(refine Ep _ rfl _ _ rfl (w0.heap.size+1+1+1) v l rfl O1 _ 1 1 [ids i] rfl rfl L1 qQ s1 ?_;intro a3 c3 w3 o3 g3 v3;have p3:=P1.out w3 g3;have z1:_=some v:=p3.c0 0 rfl;have z2:=p3.jC 0;have K2:=qC (D3.out a3 c3 w3 o3 g3);obtain⟨y0,LK,y1⟩:=E3.out _ _ _ K2.out;clear o3 g3 v3 p3)
  clear z1 z2 y0 LK y1 x1 L1 O1 P1 D3 E3 HK s1;generalize w3.setCell ⟨w0.heap.size+1,0,none⟩ (.slice a3 (l.length+1) c3)=W at *;generalize Value.slice a3 (l.length+1) c3=v2 at *;clear hs;have hml:(BZ ids ups n i).length=(DU ids ups n i).length:=by rw[IZ,kJ]
  have HML:=qC hml;clear hml;go_loopw [18] (fun t wr=>∃(j:Nat) (v':Value),j<=(BZ ids ups n i).length/\t= .int .i64 j/\Hid (MH w0 c wr v' (l++[ids i]++(((DU ids ups n i).take j).flatMap (Gk ids ups n f)).map ids))) (fun t _=>(BZ ids ups n i).length-(intOf t).toNat)
  case atStart=>exact⟨0,v2,Nat.zero_le _,rfl,qC (by simpa using K2.out)⟩
  case round=>
   obtain⟨j,v',hj,rfl,HWk⟩:=hrel;clear K2;by_cases hlt:j<(BZ ids ups n i).length
   ·have i1:(j:Int)<((BZ ids ups n i).length:Int):=qQ;have i0:(0:Int)<=(j:Int):=qQ;have hj2:j<(DU ids ups n i).length:=(by have:=HML.out;omega);have ow:=(HN.out.below HWk.out.b).own i hi;rw[KV.out]at ow;obtain⟨b,o,rfl,_,hcc⟩:=AI.lies ow qQ;have g1:wr.cell? ⟨b,o+j,none⟩=some (.int .i64 (ids (DU ids ups n i)[j])):=hcc j _ (by simp[IZ,hj2]);have r1:wr.cell? ⟨w0.heap.size+1+1,0,none⟩=some (Oy w0):=HWk.out.r.c0 0 rfl;unfold Oy at r1;obtain⟨k1,k2⟩:=(Gi HR H0 hi).1 (List.getElem_mem hj2);have CK:=qC (IH.out (DU ids ups n i)[j] _ v' wr k1 (fun a m ha e=>by
     have:=HH.out a (m+1) ha (by rw[Ek,e];exact k2);omega) (by
     have h1:=HL.out;have h2:=ZY (DU ids ups n i) (Gk ids ups n f) j hj2;simp only[Gk,kN]at h1;simp only[jG,kJ,kN,List.length_nil];omega) HWk)
    have EX:Hid (l++[ids i]++(((DU ids ups n i).take j).flatMap (Gk ids ups n f)).map ids++(Gk ids ups n f (DU ids ups n i)[j]).map ids=l++[ids i]++(((DU ids ups n i).take (j+1)).flatMap (Gk ids ups n f)).map ids):=qC (by
     rw[List.take_succ_eq_append_getElem hj2,List.flatMap_append,List.map_append];simp)
    generalize ids (DU ids ups n i)[j]=y at *;clear hcc ow k1 k2;go_wp2_with(go_at_call 107;refine CK.out.mono ?_;rintro e w4 ⟨v4,rfl,h4⟩;have H4:=qC h4;clear h4)
    have H5:=H4.out;rw[EX.out]at H5;exact⟨⟨j+1,v4,by omega,by go_num,qC H5⟩,by simp[intOf];omega⟩
   ·have e:j=(DU ids ups n i).length:=(by have:=HML.out;omega);have i1:¬(j:Int)<((BZ ids ups n i).length:Int):=qQ;have H5:=HWk.out;rw[e,List.take_length]at H5;have H6:Hid (MH w0 c wr v' (l++(Gk ids ups n (f+1) i).map ids)):=qC (by simpa[Gk]using H5);clear H5 e HWk;go_wp2;exact bodyPost_end (v:= .tuple #[]) (by simp[results,Tryz.results107,go_sem]) rfl ⟨rfl,_,H6⟩
def Yi(tmps:Array Value)(W:qM)(P:Nat)(x y:Value)(h:Ag W P (.cells #[x,y] 42))(h2:tmps[2]? =some (.pointer P)):
 (results Tryz.f90 tmps).run prog W= .ok (.agg #[x,y]) W:=by
 obtain⟨z0,z1⟩:=h.two;simp[results,Tryz.results90,go_sem,h2,z0,z1]
def AO.madeAt(w:qM)(B:Nat)(hb:B<=w.heap.size)(f g:Nat->Int):AO (w.alloc (.cells #[] 96)) B (.slice (w) 0 0) 0 f g:=World.ownsRow_made w #[] 0 hb (Nat.zero_le _) rfl
def AO.newL{w:qM}{B n c:Nat}{a:Option Addr}{f g:Nat->Int}(h:AO w B (.slice a n c) n f g)(hn:n<=1048576):As.new B w ⟨a,n,c,f,g⟩:=
 ⟨⟨by unfold maxLen;simp only;omega,h.cats⟩,fun h0=>DT h h0⟩
def CN(b:Int)(c:As)(w:qM)(hc:c.at w)(hn:c.n<=1048576):
 Calls prog 90 #[.agg #[.int .i64 b,c.val]] w fun e w'=>∃d:As,e= .returned (.agg #[.int .i64 b,d.val])/\c.same d/\d.new w w'/\Below w w w':=by
 obtain⟨a,n,cap,f,g⟩:=c;unfold As.val;simp only at hn ⊢;have n1:No (.cells #[.int .i64 0,.slice none 0 0] 42):=⟨⟩;have n2:No (.cells #[.int .i64 b,.slice a n cap] 42):=⟨⟩;have b0:Below w w ((w.alloc n2).alloc n1):=(Bg w _).alloc sI _;have A0:=(Ag.new w n2).alloc n1;have R0:Ag ((w.alloc n2).alloc n1) (w.heap.size+1) n1:=by
  have:=Ag.new (w.alloc n2) n1;simpa using this
 have T0:=qC (hc.below b0).2;simp only at T0;obtain⟨x0,x1⟩:=A0.two;clear hc;go_enter func90,ntmps90
 go_wp2;generalize hV:((w.alloc n2).alloc n1)=V at *;have n3:Nw (V.alloc (.cells #[] 96)):=⟨⟩;have bm:Below V V ((n3:qM).drew):=Az (Bg V _);have n4:Nv (.slice (V) 0 0):=⟨⟩;have OM:Hid (AO ((n3:qM).drew) w n4 0 f g):=qC (AO.madeAt V w b0.size f g);have TM:=qC (T0.out.below bm);have s1:w.heap.size<=((n3:qM).drew).heap.size:=(Af b0 bm).size;have lm:n<=4194304:=by omega
 have R1:=qC (R0.below bm);have B1:=qC (Af b0 bm);obtain⟨y0,y1⟩:=(A0.alloc (.cells #[] 96)).two;have px:¬w.heap.size=V.heap.size:=by have:=A0.lt;omega
 have vlt:w.heap.size+1<V.heap.size:=R0.lt;have RG:Hid (∀w3:qM,((n3:qM).drew).grownBy w3 (some V)->Ag w3 (w.heap.size+1) n1):=qC (fun w3 g3=>R1.out.grown g3 sO);have A1:=qC (A0.below bm);have AG:Hid (∀w3:qM,((n3:qM).drew).grownBy w3 (some V)->Ag w3 w n2):=qC (fun w3 g3=>A1.out.grown g3 sO);clear hV bm A0 R0 T0;go_region_law(refine If _ qK _ _ qK w n4 f g qK OM a n cap f g qK TM lm s1 ?_;intro a3 c3 w3 o3 g3 v3;have O3:=qC o3;have G3:=qC g3;have RR:=qC (RG.out w3 g3);obtain⟨r0,r1⟩:=RR.out.two;have rf:=RR.out.jC;obtain⟨q0,q1⟩:=(AG w3 g3).two;clear o3 g3 v3)
 all_goals(
  have B3:Hid (Below w w w3):=qC (B1.out.trans (below_grown G3 B1.out.size (fun j hj=>by cases hj;show w.heap.size<=V.heap.size;omega)));have N3:=qC (O3.out.newL hn);clear G3 O3 OM TM RG x0 x1 y0 y1 q0 q1 AG A1;go_wp2;refine bodyPost_ret (Yi _ _ (w.heap.size+1) (.int .i64 b) (.slice a3 n c3) ((RR.out.jB (i:=0) _).jB (i:=1) _) rfl) rfl ⟨⟨a3,n,c3,f,g⟩,rfl,⟨rfl,rfl,rfl⟩,?_,?_⟩
  ·refine N3.out.of sI (fun q hq hn'=>?_);have q2:=N3.out.ne RR qX q hq hn';iterate 2 rw[blk_setCell_other _ _ _ _ qJ]
  ·iterate 2 refine Below.setCell ?_ qJ _
   exact B3.out)
open _root_.Nat renaming lt_of_lt_of_le→qv
section
variable {w w':World}{a:Option Addr}{b n B lo hi:Nat}{row:Option Nat}{v:Value}{l:List Int}
def Br{a b:World}{P:Nat}(h:a.grownBy b (some P))(i:Nat)(v:Value):a.grownBy (b.setCell ⟨P,i,none⟩ v) (some P):=
 ⟨h.os,h.tape,h.output,by rw[nblk_setCell];exact h.size,fun j hj hne=>(blk_setCell_other _ _ _ _ (by dsimp only;intro e;exact hne (by rw[e]))).trans (h.block j hj hne)⟩
def Bi(a:World)(P:Nat):a.grownBy a (some P):=⟨rfl,rfl,rfl,Nat.le_refl _,fun _ _ _=>rfl⟩
def SQ(w:World)(a:Option Addr)(b n:Nat):Prop:=0<n->a=some ⟨b,0,none⟩/\∃m F,n<=m/\w.rowIs b 2 m F
def SQ.below(h:SQ w a b n)(hb:Below w w w'):SQ w' a b n:=fun h0=>by
 obtain⟨e,m,F,hm,hr⟩:=h h0;exact⟨e,m,F,hm,hr.of_block (hb.block b hr.lt)⟩
def SQ.grown(h:SQ w a b n)(hg:w.grownBy w' row)(hne:some b≠row):SQ w' a b n:=fun h0=>by
 obtain⟨e,m,F,hm,hr⟩:=h h0;exact⟨e,m,F,hm,hr.of_block (hg.block b hr.lt hne)⟩
def SQ.lt(h:SQ w a b n)(h0:0<n):b<w.heap.size:=by
 obtain⟨_,m,F,_,hr⟩:=h h0;exact hr.lt
def Bp.grown{h:Nat->Int}(hc:Bp w a n h)(hr:SQ w a b n)(hg:w.grownBy w' row)(hne:0<n->some b≠row):Bp w' a n h:=fun h0=>by
 obtain⟨b',off,e,hlt,hcc⟩:=hc h0;obtain⟨e2,m,F,hm,hrow⟩:=hr h0;have e3:=e.symm.trans e2;simp only[Option.some.injEq,Addr.mk.injEq]at e3;obtain⟨rfl,_,_⟩:=e3;refine⟨b',off,e,qv hlt hg.size,fun i hi=>?_⟩;have hb:=hg.block b' hlt (hne h0);exact(by simp only[World.cell?];rw[hb]:w'.cell? ⟨b',off+i,none⟩=w.cell? ⟨b',off+i,none⟩).trans (hcc i hi)
def AI.of_block(h:AI w B v l)(hb:∀g,v.ownBlock=some g->w'.heap[g]? =w.heap[g]?):AI w' B v l:=by
 refine⟨h.1,?_⟩;rcases h.2 with hn|⟨g,cap,cur,rfl,h1,h2,rest⟩
 ·exact .inl hn
 ·exact .inr ⟨g,cap,cur,rfl,h1,(hb g rfl).trans h2,rest⟩
def AI.below(h:AI w B v l)(hb:Below w w w'):AI w' B v l:=h.of_block fun g hg=>hb.block g (qq.lt h g hg).2
def AI.mk(h:AI w B v l)(hm:Mk lo hi w w')(hb:∀g,v.ownBlock=some g->g<lo∨hi<=g):AI w' B v l:=h.of_block fun g hg=>hm.block g (qq.lt h g hg).2 (hb g hg)
def Mk.below{w0:World}(h0:Below w0 w0 w)(h:Mk lo hi w w')(hB:w0.heap.size<=lo):Below w0 w0 w':=
 ⟨h.os.trans h0.os,h.tape.trans h0.tape,h.output.trans h0.output,Nat.le_trans h0.size h.size,fun k hk=>(h.block k (qv hk h0.size) (.inl qQ)).trans (h0.block k hk)⟩
end
open Go.Value renaming slice→qV
open _root_.Nat renaming le_trans→qj,le_refl→jP,lt_irrefl→kV,zero_add→jk
open _root_.Option renaming some→jV
open _root_.List renaming range→qx
open Go.RowKit renaming Below→qN
variable {w:World}{B:Nat}
def MJ(tmps:Array Value)(W:World)(P:Nat)(x0 x1 x2 x3 x4 x5 x6:Value)(h:Ag W P (qG #[x0,x1,x2,x3,x4,x5,x6] 53))(h2:tmps[2]? =some (.pointer P)):
 (results Tryz.f41 tmps).run prog W= .ok (.agg #[x0,x1,x2,x3,x4,x5,x6]) W:=by
 obtain⟨z0,z1,z2,z3,z4,z5,z6⟩:=h.seven;simp[results,Tryz.results41,go_sem,h2,z0,z1,z2,z3,z4,z5,z6]
def Dj{e size n c:Nat}{a:Option Addr}{xs:List Value}(h:w.ownsRow B e size (qV a n c) n xs):n<=c/\c<=maxLen:=by
 rcases h.2 with⟨hv,hn⟩|⟨g,cap,cur,hv,_,_,h1,h2,_⟩
 ·simp only[Value.slice.injEq]at hv;exact⟨by omega,by rw[hv.2.2];exact Nat.zero_le _⟩
 ·simp only[Value.slice.injEq]at hv;rw[hv.2.2];exact⟨h1,h2⟩
def GI{ops:Array Oper}{o:Oper}{a:Act}{w:World}{K:Act->World->Prop}{Q:Exit->Act->World->Prop}{E:Prop}(hgd:o.guard=none)(s x:Operand)
 (ho:o.op= .call {callee:= .builtin .append,args:=#[s,x],argTypes:=#[51,51]})
 (B:Nat)(g:Nat)(hs:a.eval s= qV g 0 0)(hown:AI w B (qV g 0 0) [])(ad:Option Addr)(m c:Nat)(f:Nat->Int)(hx:a.eval x= qV ad m c)(hc:Bp w ad m f)
 (hm:m<=1048576)(hB:B<=w.heap.size)
 (h:∀a' c' w',AJ.new B w' ⟨a',m,c',f⟩->(m<=c'/\c'<=maxLen)->w.grownBy w' (some g)->K (a.put o.dst (qV a' m c')) w'):
 if jU o (yielded ops a.tmps)=true then Oper.wp prog o a w K Q else E:=by
 have hw:jU o (yielded ops a.tmps)=true:=by simp[jU,hgd]
 rw[if_pos hw];have L0:=hc.intL;have el:((qx m).map f).length=m:=by simp
 have L:Bl w ad m (((qx m).map f).map (Value.int .i64)):=by unfold Ec at L0;rw[el]at L0;exact L0
 refine DO underlying51 Tryz.info2 rfl qQ w s x ho B _ 0 [] hs hown ad m c (((qx m).map f).map (Value.int .i64)) hx sI L (fun u hu=>by obtain⟨y,_,rfl⟩:=List.mem_map.1 hu;rfl) qQ qQ hB fun a' c' w' h2 h3 _=>?_;rw[jk,List.nil_append]at h2;rw[jk];refine h a' c' w' ?_ (Dj h2) h3;have ho':AI w' B (qV a' ((qx m).map f).length c') ((qx m).map f):=by unfold AI;rw[el];exact h2
 have hi:Bp w' a' m f:=fun h0=>by
  obtain⟨b,off,e,hlt,hcc⟩:=(AI.lies ho').ints (by rw[el];exact h0);refine⟨b,off,e,hlt,fun i hi=>?_⟩;have:=hcc i (by rw[el];exact hi);rw[this];simp[AZ,hi]
 exact⟨⟨by unfold maxLen;simp only;omega,hi⟩,fun h0=>by have:=DT h2 h0;simpa using this⟩
def Qa{b m g:Nat}{F:Nat->Value}(hr:w.rowIs b 96 m F)(ho:AI w B (qV g 0 0) []):b≠g:=fun e=>by
 obtain⟨cur,hb⟩:=Mt ho (g:=g) rfl;obtain⟨c,h1,_⟩:=hr;rw[e,hb]at h1;simp at h1
def As.new.over{w':World}{c:As}(h:c.new B w)(hs:w.heap.size<=w'.heap.size)(hb:∀b m F,w.rowIs b 96 m F->w'.heap[b]? =w.heap[b]?):c.new B w':=h.of hs (fun b e hn=>by
 obtain⟨b',m,F,e',_,_,hr⟩:=h.2 hn;rw[e]at e';cases e';exact hb b m F hr)
def Ml(t:Ae)(w:World)(ht:t.at w)(hs:t.small):
 Calls prog 41 #[t.val] w fun e w'=>∃u:Ae,e= .returned u.val/\t.same u/\u.new w w'/\(u.own.n<=u.own.k/\u.own.k<=maxLen)/\qN w w w':=by
 have n4:No (qG #[.int .i64 0,.int .i64 0,qV none 0 0,.int .i64 0,qV none 0 0,qV none 0 0,.int .i64 0] 53):=⟨⟩;have b0:qN w w ((w.alloc t.blk).alloc n4):=(Bg w _).alloc sI _;have A0:=(Ag.new w t.blk).alloc n4;have R0:Ag ((w.alloc t.blk).alloc n4) (w.heap.size+1) n4:=by
  have:=Ag.new (w.alloc t.blk) n4;simpa using this
 have T0:=qC (ht.below b0);unfold Ae.blk at b0 A0 R0 T0;unfold Ae.val;obtain⟨x0,x1,x2,x3,x4,x5,x6⟩:=A0.seven;obtain⟨m1,m2,m3⟩:=hs;clear ht;unfold AJ.val at *;go_enter func41,ntmps41
 go_wp2;have n5:No (qG #[t.id,t.b1,t.c1.val,t.b2,t.c2.val,t.own,t.made] 53):=⟨⟩;generalize hV:((w.alloc n5).alloc n4)=V at *;have B0:=qC b0;have A0':Hid (∀W,qN V V W->Ag W w n5):=qC (fun W h=>A0.below h);have R0':=qC R0;have PA:Hid (∀W,qN V V W->Calls prog 90 #[.agg #[t.b1,t.c1.val]] W fun e w'=>∃d:As,e= .returned (.agg #[t.b1,d])/\t.c1.same d/\d.new W w'/\qN W W w'):=qC (fun W hW=>CN t.b1 t.c1 W (T0.out.below hW).1 m1);have PB:Hid (∀W,qN V V W->Calls prog 90 #[.agg #[t.b2,t.c2.val]] W fun e w'=>∃d:As,e= .returned (.agg #[t.b2,d])/\t.c2.same d/\d.new W w'/\qN W W w'):=qC (fun W hW=>CN t.b2 t.c2 W (T0.out.below hW).2.1 m2);have TO:Hid (∀W,qN V V W->Bp W t.own.a t.own.n t.own.h):=qC (fun W hW=>(T0.out.below hW).2.2.2);clear hV b0 A0 R0;have V0:Hid (qN V V V.drew):=qC (Below.refl _ V).drew;have V0a:Hid (qN V V ((V.alloc (qG #[] 2)).drew)):=qC (Az (Bg V _));have EO0:Hid (AI ((V.alloc (qG #[] 2)).drew) w (qV (V) 0 0) []):=qC (AI.made V w B0.out.size);have Ju:w.heap.size<V.heap.size:=(A0' V (Below.refl _ V)).lt;have nx0:¬w.heap.size=V.heap.size:=by omega
 obtain⟨y0,y1,y2,y3,y4,y5,y6⟩:=(A0' _ V0a).seven;have ne1:¬w.heap.size=w.heap.size+1:=by omega
 have ne2:¬w.heap.size+1=w.heap.size:=by omega
 have mk1:True:=trivial;have mk2:True:=trivial;go_region_held3(fun w'=>w'.cell? ⟨w,0,none⟩=some (.int .i64 t.id)/\w'.cell? ⟨w,1,none⟩=some (.int .i64 t.b1)/\w'.cell? ⟨w,2,none⟩=some t.c1.val/\w'.cell? ⟨w,3,none⟩=some (.int .i64 t.b2)/\w'.cell? ⟨w,4,none⟩=some t.c2.val/\w'.cell? ⟨w,5,none⟩=some (qV t.own.a t.own.n t.own.k)/\w'.cell? ⟨w,6,none⟩=some (.int .i64 t.made)) (first|go_keep|(simp only[*,and_self]))
  (first
    |(go_at_call 90;have mq:=mk1;clear mk1;first|(refine(PA _ V0).mono ?_;rintro e w1 ⟨d1,rfl,s1,n1,h1⟩;have V1:=qC (Af V0 h1);have LN1:=qC (n1.low (qj B0.out.size V0.out.size));have S1:=qC s1;obtain⟨e0,e1,e2,e3,e4,e5,e6⟩:=(A0' _ V1).seven;have V1a:=qC (V1.out.alloc V1.out.size (qG #[] 2));have lt1:w.heap.size<w1.heap.size:=(A0' _ V1).lt;have nx1:¬w.heap.size=w1.heap.size:=qQ;obtain⟨p0,p1,p2,p3,p4,p5,p6⟩:=(A0' _ V1a).seven)|(refine(PA _ V0a).mono ?_;rintro e w1 ⟨d1,rfl,s1,n1,h1⟩;have V1:=qC (Af V0a h1);have LN1:=qC (n1.low (qj B0.out.size V0a.out.size));have S1:=qC s1;obtain⟨e0,e1,e2,e3,e4,e5,e6⟩:=(A0' _ V1).seven;have EO1:=qC (EO0.out.below h1);have V1a:=qC (V1.out.alloc V1.out.size (qG #[] 2));have lt1:w.heap.size<w1.heap.size:=(A0' _ V1).lt;have nx1:¬w.heap.size=w1.heap.size:=qQ;obtain⟨p0,p1,p2,p3,p4,p5,p6⟩:=(A0' _ V1a).seven))
    |(go_at_call 90;have mq':=mk2;clear mk2;first|(refine(PB _ V1).mono ?_;rintro e w2 ⟨d2,rfl,s2,n2,h2⟩;have V2:=qC (Af V1 h2);have LN2:=qC (n2.low (qj B0.out.size V1.out.size));have H12:=qC h2;have S2:=qC s2;obtain⟨f0,f1,f2,f3,f4,f5,f6⟩:=(A0' _ V2).seven;have EO2:=qC (EO1.out.below h2);have V2a:=qC (V2.out.alloc V2.out.size (qG #[] 2));have lt2:w.heap.size<w2.heap.size:=(A0' _ V2).lt;have nx2:¬w.heap.size=w2.heap.size:=qQ;obtain⟨r0,r1,r2,r3,r4,r5,r6⟩:=(A0' _ V2a).seven)|(refine(PB _ V1).mono ?_;rintro e w2 ⟨d2,rfl,s2,n2,h2⟩;have V2:=qC (Af V1 h2);have LN2:=qC (n2.low (qj B0.out.size V1.out.size));have H12:=qC h2;have S2:=qC s2;obtain⟨f0,f1,f2,f3,f4,f5,f6⟩:=(A0' _ V2).seven;have V2a:=qC (V2.out.alloc V2.out.size (qG #[] 2));have lt2:w.heap.size<w2.heap.size:=(A0' _ V2).lt;have nx2:¬w.heap.size=w2.heap.size:=qQ;obtain⟨r0,r1,r2,r3,r4,r5,r6⟩:=(A0' _ V2a).seven)|(have EOm:=qC (AI.made w1 w (qj B0.out.size V1.out.size));(refine(PB _ V1a).mono ?_;rintro e w2 ⟨d2,rfl,s2,n2,h2⟩;have V2:=qC (Af V1a h2);have LN2:=qC (n2.low (qj B0.out.size V1a.out.size));have H12:=qC (Af (Bg w1 (qG #[] 2)) h2);have S2:=qC s2;obtain⟨f0,f1,f2,f3,f4,f5,f6⟩:=(A0' _ V2).seven;have EO2:=qC (EOm.out.below h2);have V2a:=qC (V2.out.alloc V2.out.size (qG #[] 2));have lt2:w.heap.size<w2.heap.size:=(A0' _ V2).lt;have nx2:¬w.heap.size=w2.heap.size:=qQ;obtain⟨r0,r1,r2,r3,r4,r5,r6⟩:=(A0' _ V2a).seven)))
    |(refine GI qK _ _ qK w V qK EO2 _ _ _ t.own.h qK (TO _ V2) m3 (V2.out.size |> qj B0.out.size) ?_;intro a3 c3 w3 n3 cp3 g3;have CAP:=qC cp3;clear cp3;have HB3:Hid (∀b m F,w2.rowIs b 96 m F->w3.heap[b]? =w2.heap[b]?):=qC (fun b m F hr=>g3.block b hr.lt (fun e=>Qa hr EO2 (jV.inj e)));have SZ3:=qC g3.size;have NG:Hid (∀k,k<V.heap.size->some k≠some V):=qC (fun k hk e=>kV _ (qv (jV.inj e▸hk) (jP _)));have B3:Hid (qN V V w3):=qC (V2.out.trans (below_grown g3 V2.out.size (fun j hj=>by cases hj;exact jP _)));have X3:=qC (V2.out);obtain⟨g0,g1,g2,g3',g4,g5,g6⟩:=(A0' _ B3).seven;obtain⟨k0,k1,k2,k3,k4,k5,k6⟩:=(R0'.out.below B3).seven;have kf:=(R0'.out.below B3).jC;have N3:=qC n3;have G3:=qC g3;clear n3 g3)
    |(refine GI qK _ _ qK w w1 qK EO2 _ _ _ t.own.h qK (TO _ V2) m3 (V2.out.size |> qj B0.out.size) ?_;intro a3 c3 w3 n3 cp3 g3;have CAP:=qC cp3;clear cp3;have HB3:Hid (∀b m F,w2.rowIs b 96 m F->w3.heap[b]? =w2.heap[b]?):=qC (fun b m F hr=>g3.block b hr.lt (fun e=>Qa hr EO2 (jV.inj e)));have SZ3:=qC g3.size;have NG:Hid (∀k,k<V.heap.size->some k≠some w1):=qC (fun k hk e=>kV _ (qv (jV.inj e▸hk) (V1.out.size)));have B3:Hid (qN V V w3):=qC (V2.out.trans (below_grown g3 V2.out.size (fun j hj=>by cases hj;exact V1.out.size)));have X3:=qC (V2.out);obtain⟨g0,g1,g2,g3',g4,g5,g6⟩:=(A0' _ B3).seven;obtain⟨k0,k1,k2,k3,k4,k5,k6⟩:=(R0'.out.below B3).seven;have kf:=(R0'.out.below B3).jC;have N3:=qC n3;have G3:=qC g3;clear n3 g3)
    |(refine GI qK _ _ qK w w2 qK (AI.made w2 w (qj B0.out.size V2.out.size)) _ _ _ t.own.h qK (TO _ V2a) m3 (V2a.out.size |> qj B0.out.size) ?_;intro a3 c3 w3 n3 cp3 g3;have CAP:=qC cp3;clear cp3;have HB3:Hid (∀b m F,w2.rowIs b 96 m F->w3.heap[b]? =w2.heap[b]?):=qC (fun b m F hr=>(g3.block b (qv hr.lt ((Below.refl _ w2).alloc (jP _) (qG #[] 2)).size) (fun e=>Nat.ne_of_lt hr.lt (jV.inj e))).trans (blk_alloc_lt _ _ _ hr.lt));have SZ3:=qC (qj ((Below.refl _ w2).alloc (jP _) (qG #[] 2)).size g3.size);have NG:Hid (∀k,k<V.heap.size->some k≠some w2):=qC (fun k hk e=>kV _ (qv (jV.inj e▸hk) (V2.out.size)));have B3:Hid (qN V V w3):=qC (V2a.out.trans (below_grown g3 V2a.out.size (fun j hj=>by cases hj;exact V2.out.size)));have X3:=qC (V2a.out);obtain⟨g0,g1,g2,g3',g4,g5,g6⟩:=(A0' _ B3).seven;obtain⟨k0,k1,k2,k3,k4,k5,k6⟩:=(R0'.out.below B3).seven;have kf:=(R0'.out.below B3).jC;have N3:=qC n3;have G3:=qC g3;clear n3 g3))
 all_goals(
  have Q1:=qC ((LN1.out.below H12).over SZ3 HB3);have Q2:=qC (LN2.out.over SZ3 HB3);have BB:=qC (Af B0 B3);have RR:=qC (R0'.out.below B3);clear LN1 LN2 H12 HB3 SZ3 G3 NG X3 V0 V0a EO0 PA PB TO A0';go_wp2;refine bodyPost_ret (MJ _ _ (w.heap.size+1) (.int .i64 t.id) (.int .i64 t.b1) (qV d1.a d1.n d1.k) (.int .i64 t.b2) (qV d2.a d2.n d2.k) (qV a3 t.own.n c3) (.int .i64 t.made) (Ag.all7 RR _ _ _ _ _ _ _) rfl) rfl ⟨⟨t.id,t.b1,d1,t.b2,d2,⟨a3,t.own.n,c3,t.own.h⟩,t.made⟩,rfl,⟨rfl,rfl,S1,rfl,S2,⟨rfl,rfl⟩,rfl⟩,⟨?_,?_,?_⟩,CAP,?_⟩
  ·refine Q1.out.of sI (fun g hg hn'=>?_);have q2:=Q1.out.ne RR qX g hg hn';iterate 7 rw[blk_setCell_other _ _ _ _ qJ]
  ·refine Q2.out.of sI (fun g hg hn'=>?_);have q2:=Q2.out.ne RR qX g hg hn';iterate 7 rw[blk_setCell_other _ _ _ _ qJ]
  ·refine N3.out.of sI (fun g hg hn'=>?_);have q2:=N3.out.ne RR qX g hg hn';iterate 7 rw[blk_setCell_other _ _ _ _ qJ]
  ·iterate 7 refine Below.setCell ?_ qJ _
   exact BB.out)
open Go.Value renaming string→sT,int→iT
open Go.IntKind renaming i64→qH
open _root_.List renaming mem_map→jy,nil_append→zN
open _root_.Nat renaming zero_le→qy
open Go.World renaming ownsRow_made→xv
variable {w:qM}{B n c:Nat}{a:Option Addr}
def II(tmps:Array Value)(W:qM)(P:Nat)(x0 x1 x2 x3 x4 x5 x6 x7 x8 x9:Value)(h:Ag W P (qG #[x0,x1,x2,x3,x4,x5,x6,x7,x8,x9] 59))(h2:tmps[2]? =some (.pointer P)):
 (results Tryz.f42 tmps).run prog W= .ok (.agg #[x0,x1,x2,x3,x4,x5,x6,x7,x8,x9]) W:=by
 obtain⟨z0,z1,z2,z3,z4,z5,z6,z7,z8,z9⟩:=h.jE;simp[results,Tryz.results42,go_sem,h2,z0,z1,z2,z3,z4,z5,z6,z7,z8,z9]
def Rn{f:Nat->ByteArray}(h:w.ownsRow B 9 1 (qV a n c) n ((qx n).map (fun i=>Value.string (f i))))(hn:n<=1048576)(hz:∀i,i<n->(f i).size<=maxLen):AE.new B w ⟨a,n,c,f⟩:=by
 have hi:JL w a n f:=fun h0=>by
  obtain⟨b,off,e,hlt,hcc⟩:=Bl.own h h0;exact⟨b,off,e,hlt,fun i hi=>hcc i _ (by simp[hi])⟩
 exact⟨⟨by unfold maxLen;simp only;omega,hi,hz⟩,fun h0=>Ng h h0⟩
def Rr{f:Nat->Int}(h:w.ownsRow B 2 1 (qV a n c) n (((qx n).map f).map (Value.int .i64)))(hn:n<=1048576):AJ.new B w ⟨a,n,c,f⟩:=by
 have el:((qx n).map f).length=n:=by simp
 have ho':AI w B (qV a ((qx n).map f).length c) ((qx n).map f):=by unfold AI;rw[el];exact h
 have hi:Bp w a n f:=fun h0=>by
  obtain⟨b,off,e,hlt,hcc⟩:=(AI.lies ho').ints (by rw[el];exact h0);refine⟨b,off,e,hlt,fun i hi=>?_⟩;have:=hcc i (by rw[el];exact hi);rw[this];simp[AZ,hi]
 exact⟨⟨by unfold maxLen;simp only;omega,hi⟩,fun h0=>by have:=DT h h0;simpa using this⟩
def My(t:Ab)(w:qM)(ht:t.at w)(hs:t.small):
 Calls prog 42 #[t.val] w fun e w'=>∃u:Ab,e= .returned u.val/\t.same u/\u.new w w'/\(u.jA.n<=u.jA.k/\u.jA.k<=maxLen)/\qN w w w':=by
 have b0:qN w w ((w.alloc t.blk).alloc FJ):=(Bg w _).alloc sI _;have A0:=(Ag.new w t.blk).alloc FJ;have R0:Ag ((w.alloc t.blk).alloc FJ) (w.heap.size+1) FJ:=by
  have:=Ag.new (w.alloc t.blk) FJ;simpa using this
 have HT:=qC ht;obtain⟨m1,m2,m3,m4,m5⟩:=hs;have ne1:¬w.heap.size+1=w.heap.size:=by omega
 have ne2:¬w.heap.size=w.heap.size+1:=by omega
 have PA:Hid (∀W,qN w w W->Calls prog 90 #[.agg #[t.b1,t.c1.val]] W fun e w'=>∃d:As,e= .returned (.agg #[t.b1,d])/\t.c1.same d/\d.new W w'/\qN W W w'):=qC (fun W hW=>CN t.b1 t.c1 W (HT.out.below hW).1 m1);have PB:Hid (∀W,qN w w W->Calls prog 90 #[.agg #[t.b2,t.c2.val]] W fun e w'=>∃d:As,e= .returned (.agg #[t.b2,d])/\t.c2.same d/\d.new W w'/\qN W W w'):=qC (fun W hW=>CN t.b2 t.c2 W (HT.out.below hW).2.2.2.1 m5);have LS:Hid (∀W,qN w w W->Bl W t.jA.a t.jA.n ((qx t.jA.n).map (fun i=>Value.string (t.jA.f i)))):=qC (fun W hW=>Mm (HT.out.below hW).2.1.2.1);have LI:Hid (∀W,qN w w W->Bl W t.own.a t.own.n (((qx t.own.n).map t.own.h).map (Value.int .i64))):=qC (fun W hW=>by
  have L0:=(HT.out.below hW).2.2.1.2.intL;have el:((qx t.own.n).map t.own.h).length=t.own.n:=by simp
  unfold Ec at L0;rw[el]at L0;exact L0)
 have ZI:=qC (HT.out.2.1.2.2);unfold Ab.blk FJ at b0 A0 R0;unfold Ab.val;unfold As.val AJ.val AE.val at *;clear ht;obtain⟨x0,x1,x2,x3,x4,x5,x6,x7,x8,x9⟩:=A0.jE;have C1:=qC (PA.out _ b0);go_enter func42,ntmps42
 go_wp2_with fail
 refine C1.out.mono ?_;rintro e w1 ⟨d1,rfl,s1,n1,h1⟩;have S1:=qC s1;have A1:=A0.below h1;have R1:=R0.below h1;have B1:=Af b0 h1;have L1:=b0.size;have N1:=qC (n1.low L1);have af:=A1.jC;have A1':Ag ((w1.setCell ⟨w,3,none⟩ (iT qH t.b1)).setCell ⟨w,4,none⟩ (qV d1.a d1.n d1.k)) w (qG #[t.id,t.kind,t.up,t.b1,d1,sT t.data,t.jA,t.own,t.b2,t.c2] 59):=(A1.jB (i:=3) (iT qH t.b1)).jB (i:=4) (qV d1.a d1.n d1.k);have n7:No (qG #[iT qH 0,iT qH 0,iT qH 0,iT qH 0,qV none 0 0,sT (qD #[]),qV none 0 0,qV none 0 0,iT qH 0,qV none 0 0] 59):=⟨⟩;have n3:No n7:=⟨⟩;have R1':Ag ((w1.setCell ⟨w,3,none⟩ (iT qH t.b1)).setCell ⟨w,4,none⟩ (qV d1.a d1.n d1.k)) (w.heap.size+1) n3:=(R1.other qQ _).other qQ _;have B1':qN w w ((w1.setCell ⟨w,3,none⟩ (iT qH t.b1)).setCell ⟨w,4,none⟩ (qV d1.a d1.n d1.k)):=(B1.setCell nr _).setCell nr _;have N1':Hid (d1.new w ((w1.setCell ⟨w,3,none⟩ (iT qH t.b1)).setCell ⟨w,4,none⟩ (qV d1.a d1.n d1.k))):=qC (N1.out.of sI (fun g hg hn'=>by
  have q1:=N1.out.ne A1 qX g hg hn';iterate 2 rw[blk_setCell_other _ _ _ _ qJ]))
 obtain⟨y0,y1,y2,y3,y4,y5,y6,y7,y8,y9⟩:=A1.jE;obtain⟨z0,z1,z2,z3,z4,z5,z6,z7,z8,z9⟩:=A1'.jE;have C2:=qC (PB.out _ B1');clear x0 x1 x2 x3 x4 x5 x6 x7 x8 x9 C1 s1 n1 h1 N1 A0 R0 b0 R1 B1;go_wp2_with fail
 refine C2.out.mono ?_;rintro e w2 ⟨d2,rfl,s2,n2,h2⟩;have S2:=qC s2;have A2:=A1'.below h2;have R2:=R1'.below h2;have B2:=Af B1' h2;have N1:=qC (N1'.out.below h2);have N2:=qC (n2.low B1'.size);have af2:=A2.jC;have n4:No (qG #[t.id,t.kind,t.up,t.b1,d1,sT t.data,t.jA,t.own,t.b2,d2] 59):=⟨⟩;have A2':Ag ((w2.setCell ⟨w,8,none⟩ (iT qH t.b2)).setCell ⟨w,9,none⟩ (qV d2.a d2.n d2.k)) w n4:=(A2.jB (i:=8) (iT qH t.b2)).jB (i:=9) (qV d2.a d2.n d2.k);have R2':Ag ((w2.setCell ⟨w,8,none⟩ (iT qH t.b2)).setCell ⟨w,9,none⟩ (qV d2.a d2.n d2.k)) (w.heap.size+1) n3:=(R2.other qQ _).other qQ _;have B2':qN w w ((w2.setCell ⟨w,8,none⟩ (iT qH t.b2)).setCell ⟨w,9,none⟩ (qV d2.a d2.n d2.k)):=(B2.setCell nr _).setCell nr _;have M1:Hid (d1.new w ((w2.setCell ⟨w,8,none⟩ (iT qH t.b2)).setCell ⟨w,9,none⟩ (qV d2.a d2.n d2.k))):=qC (N1.out.of sI (fun g hg hn'=>by
  have q1:=N1.out.ne A2 qX g hg hn';iterate 2 rw[blk_setCell_other _ _ _ _ qJ]))
 have M2:Hid (d2.new w ((w2.setCell ⟨w,8,none⟩ (iT qH t.b2)).setCell ⟨w,9,none⟩ (qV d2.a d2.n d2.k))):=qC (N2.out.of sI (fun g hg hn'=>by
  have q1:=N2.out.ne A2 qX g hg hn';iterate 2 rw[blk_setCell_other _ _ _ _ qJ]))
 clear y0 y1 y2 y3 y4 y5 y6 y7 y8 y9 z0 z1 z2 z3 z4 z5 z6 z7 z8 z9 C2 s2 n2 h2 N1 N2 N1' A1 A1' R1' B1' R2 B2 af L1;obtain⟨y0,y1,y2,y3,y4,y5,y6,y7,y8,y9⟩:=A2.jE;have n5:Nw (((w2.setCell ⟨w,8,none⟩ (iT qH t.b2)).setCell ⟨w,9,none⟩ (qV d2.a d2.n d2.k)).alloc (qG #[] 9)):=⟨⟩;have b3:qN ((w2.setCell ⟨w,8,none⟩ (iT qH t.b2)).setCell ⟨w,9,none⟩ (qV d2.a d2.n d2.k)).heap.size ((w2.setCell ⟨w,8,none⟩ (iT qH t.b2)).setCell ⟨w,9,none⟩ (qV d2.a d2.n d2.k)) n5:=Bg _ _;have e2:((w2.setCell ⟨w,8,none⟩ (iT qH t.b2)).setCell ⟨w,9,none⟩ (qV d2.a d2.n d2.k)).heap.size=w2.heap.size:=by simp
 have n6:Nv (qV (w2) 0 0):=⟨⟩;have OM:Hid ((n5:qM).ownsRow w 9 1 n6 0 []):=qC (by
  have:=xv (e:=9) (size:=1) ((w2.setCell ⟨w,8,none⟩ (iT qH t.b2)).setCell ⟨w,9,none⟩ (qV d2.a d2.n d2.k)) #[] 0 B2'.size (qy _) rfl;rw[e2]at this;exact this)
 have LM:=qC (LS.out _ (Af B2' b3));have SZ:=(Af B2' b3).size;have P2:w.heap.size+1<w2.heap.size:=by have:=R2'.lt;rw[e2]at this;exact this
 obtain⟨z0,z1,z2,z3,z4,z5,z6,z7,z8,z9⟩:=(A2'.below b3).jE;have F3:Hid (∀(a3:Option Addr) (c3:Nat) (w3:qM),w3.ownsRow w 9 1 (qV a3 t.jA.n c3) t.jA.n ((qx t.jA.n).map (fun i=>Value.string (t.jA.f i)))->(n5:qM).grownBy w3 (some w2)->Ag w3 w n4/\Ag w3 (w.heap.size+1) n3/\qN w w w3/\d1.new w w3/\d2.new w w3/\AE.new w w3 ⟨a3,t.jA.n,c3,t.jA.f⟩):=qC (fun a3 c3 w3 o3 g3=>by
  have rn:∀c:As,c.new w ((w2.setCell ⟨w,8,none⟩ (iT qH t.b2)).setCell ⟨w,9,none⟩ (qV d2.a d2.n d2.k))->c.new w w3:=fun c hc=>(hc.below b3).of g3.size (fun b hb hn=>g3.block b (by obtain⟨b',_,_,e',_,_,hr⟩:=(hc.below b3).2 hn;rw[hb]at e';cases e';exact hr.lt) (fun e=>by
   obtain⟨b',_,_,e',_,_,hr⟩:=hc.2 hn;rw[hb]at e';cases e';have h1:=hr.lt;have h2:=jV.inj e;rw[e2]at h1;omega))
  refine⟨(A2'.below b3).grown g3 sO,(R2'.below b3).grown g3 sO,(Af B2' b3).trans (below_grown g3 SZ (fun j hj=>by cases hj;omega)),rn d1 M1,rn d2 M2,Rn o3 m3.1 ZI⟩)
 have AR3:Hid (∀(a3:Option Addr) (c3:Nat) (w3:qM),Ag w3 w n4->Ag w3 (w.heap.size+1) n3->qN w w w3->d1.new w w3->d2.new w w3->AE.new w w3 ⟨a3,t.jA.n,c3,t.jA.f⟩->
  Ag (w3.setCell ⟨w,6,none⟩ (qV a3 t.jA.n c3)) w (qG #[t.id,t.kind,t.up,t.b1,d1,sT t.data,qV a3 t.jA.n c3,t.own,t.b2,d2] 59)/\Ag (w3.setCell ⟨w,6,none⟩ (qV a3 t.jA.n c3)) (w.heap.size+1) n3/\qN w w (w3.setCell ⟨w,6,none⟩ (qV a3 t.jA.n c3))/\d1.new w (w3.setCell ⟨w,6,none⟩ (qV a3 t.jA.n c3))/\d2.new w (w3.setCell ⟨w,6,none⟩ (qV a3 t.jA.n c3))/\AE.new w (w3.setCell ⟨w,6,none⟩ (qV a3 t.jA.n c3)) ⟨a3,t.jA.n,c3,t.jA.f⟩):=qC (fun a3 c3 w3 A R B k1 k2 k4=>
  ⟨A.jB (i:=6) _,R.other qQ _,B.setCell nr _,k1.of sI (fun g hg hn'=>by have q1:=k1.ne A qX g hg hn';rw[blk_setCell_other _ _ _ _ qJ]),k2.of sI (fun g hg hn'=>by have q1:=k2.ne A qX g hg hn';rw[blk_setCell_other _ _ _ _ qJ]),k4.of sI (fun g hg hn'=>by have q1:=k4.ne A qX g hg hn';rw[blk_setCell_other _ _ _ _ qJ])⟩)
 have O3:Hid (∀(a3:Option Addr) (c3:Nat) (w3:qM),qN w w (w3.setCell ⟨w,6,none⟩ (qV a3 t.jA.n c3))->((w3.setCell ⟨w,6,none⟩ (qV a3 t.jA.n c3)).alloc (qG #[] 2)).ownsRow w 2 1 (qV (w3) 0 0) 0 []):=qC (fun a3 c3 w3 B=>by
  have:=xv (e:=2) (size:=1) (w3.setCell ⟨w,6,none⟩ (qV a3 t.jA.n c3)) #[] 0 B.size (qy _) rfl;have e3:(w3.setCell ⟨w,6,none⟩ (qV a3 t.jA.n c3)).heap.size=w3.heap.size:=by simp
  rw[e3]at this;exact this)
 have F4:Hid (∀(a3:Option Addr) (c3:Nat) (w3:qM) (a4:Option Addr) (c4:Nat) (w4:qM),Ag (w3.setCell ⟨w,6,none⟩ (qV a3 t.jA.n c3)) w (qG #[t.id,t.kind,t.up,t.b1,d1,sT t.data,qV a3 t.jA.n c3,t.own,t.b2,d2] 59)->Ag (w3.setCell ⟨w,6,none⟩ (qV a3 t.jA.n c3)) (w.heap.size+1) n3->qN w w (w3.setCell ⟨w,6,none⟩ (qV a3 t.jA.n c3))->d1.new w (w3.setCell ⟨w,6,none⟩ (qV a3 t.jA.n c3))->d2.new w (w3.setCell ⟨w,6,none⟩ (qV a3 t.jA.n c3))->AE.new w (w3.setCell ⟨w,6,none⟩ (qV a3 t.jA.n c3)) ⟨a3,t.jA.n,c3,t.jA.f⟩->w4.ownsRow w 2 1 (qV a4 t.own.n c4) t.own.n (((qx t.own.n).map t.own.h).map (Value.int .i64))->((w3.setCell ⟨w,6,none⟩ (qV a3 t.jA.n c3)).alloc (qG #[] 2)).grownBy w4 (some w3)->
  Ag w4 w (qG #[t.id,t.kind,t.up,t.b1,d1,sT t.data,qV a3 t.jA.n c3,t.own,t.b2,d2] 59)/\Ag w4 (w.heap.size+1) n3/\qN w w w4/\d1.new w w4/\d2.new w w4/\AE.new w w4 ⟨a3,t.jA.n,c3,t.jA.f⟩/\AJ.new w w4 ⟨a4,t.own.n,c4,t.own.h⟩):=qC (fun a3 c3 w3 a4 c4 w4 A R B k1 k2 k4 o4 g4=>by
  have e3:(w3.setCell ⟨w,6,none⟩ (qV a3 t.jA.n c3)).heap.size=w3.heap.size:=by simp
  have b4:qN (w3.setCell ⟨w,6,none⟩ (qV a3 t.jA.n c3)).heap.size (w3.setCell ⟨w,6,none⟩ (qV a3 t.jA.n c3)) ((w3.setCell ⟨w,6,none⟩ (qV a3 t.jA.n c3)).alloc (qG #[] 2)):=Bg _ _;have l1:=A.lt;have l2:=R.lt;rw[e3]at l1 l2;have rn:∀c:As,c.new w (w3.setCell ⟨w,6,none⟩ (qV a3 t.jA.n c3))->c.new w w4:=fun c hc=>(hc.below b4).of g4.size (fun b hb hn=>g4.block b (by obtain⟨b',_,_,e',_,_,hr⟩:=(hc.below b4).2 hn;rw[hb]at e';cases e';exact hr.lt) (fun e=>by
   obtain⟨b',_,_,e',_,_,hr⟩:=hc.2 hn;rw[hb]at e';cases e';have h1:=hr.lt;have h2:=jV.inj e;rw[e3]at h1;omega))
  refine⟨(A.below b4).grown g4 sO,(R.below b4).grown g4 sO,(Af B b4).trans (below_grown g4 (Af B b4).size (fun j hj=>by cases hj;omega)),rn d1 k1,rn d2 k2,(k4.below b4).of g4.size (fun b hb hn=>g4.block b (by obtain⟨b',_,_,e',_,_,hr⟩:=(k4.below b4).2 hn;rw[hb]at e';cases e';exact hr.lt) (fun e=>by
   obtain⟨b',_,_,e',_,_,hr⟩:=k4.2 hn;rw[hb]at e';cases e';have h1:=hr.lt;have h2:=jV.inj e;rw[e3]at h1;omega)),Rr o4 m4⟩)
 have mk1:True:=trivial;have bb4:Hid (∀W:qM,qN W W (W.alloc (qG #[] 2))):=qC (fun W=>Bg _ _);have ln1:t.jA.n<=1048576:=m3.1;clear A2' R2' B2' M1 M2 b3 A2;go_wp2_with(first
  |(have mq:=mk1;clear mk1;refine Cl underlying57 Tryz.info9 rfl qQ _ rfl _ _ rfl w n6 0 [] rfl OM t.jA.a t.jA.n t.jA.k ((qx t.jA.n).map (fun i=>Value.string (t.jA.f i))) rfl sI LM (fun u hu=>by obtain⟨y,_,rfl⟩:=jy.1 hu;rfl) qQ qQ SZ ?_;intro a3 c3 w3 o3 g3;rw[jk,zN]at o3;rw[jk];have CAP:=qC (Dj o3);obtain⟨A3,R3,B3,K1,K2,K4⟩:=F3.out a3 c3 w3 o3 g3;obtain⟨A3',R3',B3',K1',K2',K4'⟩:=AR3.out a3 c3 w3 A3 R3 B3 K1 K2 K4;have HA3:=qC A3';have HR3:=qC R3';have HB3:=qC B3';have HK1:=qC K1';have HK2:=qC K2';have HK4:=qC K4';have OM2:=qC (O3.out a3 c3 w3 B3');have LM2:=qC (LI.out _ (Af B3' (bb4 _)));have SZ2:=qC (Af B3' (bb4 _)).size;obtain⟨p0,p1,p2,p3,p4,p5,p6,p7,p8,p9⟩:=A3.jE;have pf:=A3.jC;obtain⟨q0,q1,q2,q3,q4,q5,q6,q7,q8,q9⟩:=(A3'.below (bb4 _)).jE;clear o3 g3 A3 R3 B3 K1 K2 K4 A3' R3' B3' K1' K2' K4' F3 AR3 O3 OM LM)
  |(refine Cl underlying51 Tryz.info2 rfl qQ _ rfl _ _ rfl w (qV (some ⟨w3,0,none⟩) 0 0) 0 [] rfl OM2 t.own.a t.own.n t.own.k (((qx t.own.n).map t.own.h).map (Value.int .i64)) rfl sI LM2 (fun u hu=>by obtain⟨y,_,rfl⟩:=jy.1 hu;rfl) qQ qQ SZ2 ?_;intro a4 c4 w4 o4 g4;rw[jk,zN]at o4;rw[jk];obtain⟨A4,R4,B4,K1,K2,K4,K3⟩:=F4.out a3 c3 w3 a4 c4 w4 HA3 HR3 HB3 HK1 HK2 HK4 o4 g4;have HA4:=qC A4;have HR4:=qC R4;have HB4:=qC B4;have J1:=qC K1;have J2:=qC K2;have J3:=qC K3;have J4:=qC K4;obtain⟨u0,u1,u2,u3,u4,u5,u6,u7,u8,u9⟩:=A4.jE;have uf:=A4.jC;have A4':Ag (w4.setCell ⟨w,7,none⟩ (qV a4 t.own.n c4)) w (qG #[t.id,t.kind,t.up,t.b1,d1,sT t.data,qV a3 t.jA.n c3,qV a4 t.own.n c4,t.b2,d2] 59):=A4.jB (i:=7) _;have R4':Ag (w4.setCell ⟨w,7,none⟩ (qV a4 t.own.n c4)) (w.heap.size+1) n7:=R4.other qQ _;have HR4':=qC R4';obtain⟨v0,v1,v2,v3,v4,v5,v6,v7,v8,v9⟩:=A4'.jE;obtain⟨r0,r1,r2,r3,r4,r5,r6,r7,r8,r9⟩:=R4'.jE;have rf:=R4'.jC;clear o4 g4 A4 R4 B4 K1 K2 K3 K4 A4' R4'))
 refine bodyPost_ret (II _ _ (w.heap.size+1) (iT qH t.id) (iT qH t.kind) (iT qH t.up) (iT qH t.b1) (qV d1.a d1.n d1.k) (sT t.data) (qV a3 t.jA.n c3) (qV a4 t.own.n c4) (iT qH t.b2) (qV d2.a d2.n d2.k) (Ag.all10 HR4' _ _ _ _ _ _ _ _ _ _) rfl) rfl ⟨⟨t.id,t.kind,t.up,t.b1,d1,t.data,⟨a3,t.jA.n,c3,t.jA.f⟩,⟨a4,t.own.n,c4,t.own.h⟩,t.b2,d2⟩,rfl,⟨rfl,rfl,rfl,rfl,S1,rfl,⟨rfl,rfl⟩,⟨rfl,rfl⟩,rfl,S2⟩,⟨?_,?_,?_,?_⟩,CAP,?_⟩
 ·refine J1.out.of sI (fun g hg hn'=>?_);have q1:=J1.out.ne HA4 qX g hg hn';have q2:=J1.out.ne HR4 qX g hg hn';iterate 11 rw[blk_setCell_other _ _ _ _ qJ]
 ·refine J4.out.of sI (fun g hg hn'=>?_);have q1:=J4.out.ne HA4 qX g hg hn';have q2:=J4.out.ne HR4 qX g hg hn';iterate 11 rw[blk_setCell_other _ _ _ _ qJ]
 ·refine J3.out.of sI (fun g hg hn'=>?_);have q1:=J3.out.ne HA4 qX g hg hn';have q2:=J3.out.ne HR4 qX g hg hn';iterate 11 rw[blk_setCell_other _ _ _ _ qJ]
 ·refine J2.out.of sI (fun g hg hn'=>?_);have q1:=J2.out.ne HA4 qX g hg hn';have q2:=J2.out.ne HR4 qX g hg hn';iterate 11 rw[blk_setCell_other _ _ _ _ qJ]
 ·iterate 11 refine Below.setCell ?_ qJ _
  exact HB4.out
open _root_.Array renaming getElem→jN
open _root_.List renaming mem_append→jq,mem_singleton→kW
open Go renaming Value→qB
variable {w w':World}{P t B B' i:Nat}{c:AJ}{v vt vo:qB}{lt:List Ae}{lo:List Ab}
structure Dk(w w':World):Prop where
 size:w.heap.size<=w'.heap.size
 block:∀(k:Nat) (cs:Array qB) (t:TypeId),w.heap[k]? =some (Obj.cells cs t (0,0))->t≠53->t≠59->w'.heap[k]? =w.heap[k]?
def Dk.blk{cs:Array qB}(h:Dk w w')(hb:Ag w P (qG cs t))(h1:t≠53)(h2:t≠59):Ag w' P (qG cs t):=(h.block P cs t hb h1 h2).trans hb
def Dk.of_below(h:Below w w w'):Dk w w':=⟨h.size,fun k _ _ hk _ _=>h.block k (jN?_eq_some_iff.1 hk).1⟩
def Lo{b ty m:Nat}{F:Nat->qB}(hr:w.rowIs b ty m F):∃cs,w.heap[b]? =some (qG cs ty (0,0)):=by
 obtain⟨c,h1,_⟩:=hr;exact⟨c,h1⟩
def AJ.new.over(h:c.new B w)(hs:w.heap.size<=w'.heap.size)(hb:∀b m F,w.rowIs b 2 m F->w'.heap[b]? =w.heap[b]?):c.new B w':=h.of hs (fun b e hn=>by
 obtain⟨b',m,F,e',_,_,hr⟩:=h.2 hn;rw[e]at e';cases e';exact hb b m F hr)
def AE.new.over{c:AE}(h:c.new B w)(hs:w.heap.size<=w'.heap.size)(hb:∀b m F,w.rowIs b 9 m F->w'.heap[b]? =w.heap[b]?):c.new B w':=h.of hs (fun b e hn=>by
 obtain⟨b',m,F,e',_,_,hr⟩:=h.2 hn;rw[e]at e';cases e';exact hb b m F hr)
structure Em(w w':World):Prop where
 size:w.heap.size<=w'.heap.size
 block:∀(k:Nat) (cs:Array qB) (t:TypeId),w.heap[k]? =some (Obj.cells cs t (0,0))->t=96∨t=2∨t=9->w'.heap[k]? =w.heap[k]?
def Dk.l(h:Dk w w'):Em w w':=⟨h.size,fun k cs t hk ht=>h.block k cs t hk (by rcases ht with rfl|rfl|rfl<;>decide) (by rcases ht with rfl|rfl|rfl<;>decide)⟩
def As.new.keeps{c:As}(h:c.new B w)(k:Em w w'):c.new B w':=h.over k.size (fun b m F hr=>by obtain⟨cs,hh⟩:=Lo hr;exact k.block b cs _ hh (.inl rfl))
def AJ.new.keeps(h:c.new B w)(k:Em w w'):c.new B w':=h.over k.size (fun b m F hr=>by obtain⟨cs,hh⟩:=Lo hr;exact k.block b cs _ hh (.inr (.inl rfl)))
def AE.new.keeps{c:AE}(h:c.new B w)(k:Em w w'):c.new B w':=h.over k.size (fun b m F hr=>by obtain⟨cs,hh⟩:=Lo hr;exact k.block b cs _ hh (.inr (.inr rfl)))
def Ae.new.keeps{t:Ae}(h:t.new B w)(k:Em w w'):t.new B w':=⟨h.1.keeps k,h.2.1.keeps k,h.2.2.keeps k⟩
def Ab.new.keeps{t:Ab}(h:t.new B w)(k:Em w w'):t.new B w':=⟨h.1.keeps k,h.2.1.keeps k,h.2.2.1.keeps k,h.2.2.2.keeps k⟩
def Ae.new.low{t:Ae}(h:t.new B w)(hB:B'<=B):t.new B' w:=⟨h.1.low hB,h.2.1.low hB,h.2.2.low hB⟩
def Ab.new.low{t:Ab}(h:t.new B w)(hB:B'<=B):t.new B' w:=⟨h.1.low hB,h.2.1.low hB,h.2.2.1.low hB,h.2.2.2.low hB⟩
def Aq{cs:Array qB}(hb:Ag w P (qG cs t))(ht:t≠96/\t≠2/\t≠9)(v:qB):Em w (w.setCell ⟨P,i,none⟩ v):=by
 refine⟨by rw[nblk_setCell];exact Nat.le_refl _,fun k ck tk hk hh=>blk_setCell_other _ _ _ _ (fun e=>?_)⟩;dsimp only at e;unfold Ag at hb;rw[e]at hk;rw[hk]at hb;simp only[jV.injEq,Obj.cells.injEq,and_true]at hb;rcases hh with h|h|h
 ·exact ht.1 (hb.2.symm.trans h)
 ·exact ht.2.1 (hb.2.symm.trans h)
 ·exact ht.2.2 (hb.2.symm.trans h)
def Du.set{l:List Ae}{cs:Array qB}(h:Du w B v l)(hb:Ag w P (qG cs t))(ht:t≠53)(u:qB):Du (w.setCell ⟨P,i,none⟩ u) B v l:=by
 refine⟨h.1,?_⟩;rcases h.2 with hn|⟨g,cap,cur,hv,hbg,hg,rest⟩
 ·exact .inl hn
 ·refine .inr ⟨g,cap,cur,hv,hbg,?_,rest⟩;have hh:Ag w g (qG cur 53):=hg;refine hh.other (fun e=>?_) u;unfold Ag at hb hh;rw[e,hh]at hb;simp only[jV.injEq,Obj.cells.injEq,and_true]at hb;exact ht hb.2.symm
def AW.set{l:List Ab}{cs:Array qB}(h:AW w B v l)(hb:Ag w P (qG cs t))(ht:t≠59)(u:qB):AW (w.setCell ⟨P,i,none⟩ u) B v l:=by
 refine⟨h.1,?_⟩;rcases h.2 with hn|⟨g,cap,cur,hv,hbg,hg,rest⟩
 ·exact .inl hn
 ·refine .inr ⟨g,cap,cur,hv,hbg,?_,rest⟩;have hh:Ag w g (qG cur 59):=hg;refine hh.other (fun e=>?_) u;unfold Ag at hb hh;rw[e,hh]at hb;simp only[jV.injEq,Obj.cells.injEq,and_true]at hb;exact ht hb.2.symm
structure Bz(w:World)(B:Nat)(vt vo:qB)(lt:List Ae)(lo:List Ab):Prop where
 t:Du w B vt lt
 o:AW w B vo lo
 tn:∀x∈lt,x.new B w
 on:∀x∈lo,x.new B w
 tc:∀x∈lt,x.own.n<=x.own.k/\x.own.k<=maxLen
 oc:∀x∈lo,x.jA.n<=x.jA.k/\x.jA.k<=maxLen
def Bz.below(h:Bz w B vt vo lt lo)(hb:Below w w w'):Bz w' B vt vo lt lo:=
 ⟨h.t.below hb,h.o.below hb,fun x hx=>(h.tn x hx).keeps (Dk.of_below hb).l,fun x hx=>(h.on x hx).keeps (Dk.of_below hb).l,h.tc,h.oc⟩
def Bz.base(h:Bz w B vt vo lt lo)(hB:B'<=B):Bz w B' vt vo lt lo:=⟨h.t.base hB,h.o.base hB,fun x hx=>(h.tn x hx).low hB,fun x hx=>(h.on x hx).low hB,h.tc,h.oc⟩
def Bz.set{cs:Array qB}(h:Bz w B vt vo lt lo)(hb:Ag w P (qG cs t))(ht:t=27∨t=50)(u:qB):Bz (w.setCell ⟨P,i,none⟩ u) B vt vo lt lo:=by
 have k:=Aq (i:=i) hb (by rcases ht with rfl|rfl<;>decide) u;exact⟨h.t.set hb (by rcases ht with rfl|rfl<;>decide) u,h.o.set hb (by rcases ht with rfl|rfl<;>decide) u,fun x hx=>(h.tn x hx).keeps k,fun x hx=>(h.on x hx).keeps k,h.tc,h.oc⟩
def Ae.new.at{t:Ae}(h:t.new B w):t.at w:=⟨h.1.1,h.2.1.1,h.2.2.1⟩
def Df(ta:Option Addr)(ca:Nat)(oa:Option Addr)(co:Nat)(lt:List Ae)(lo:List Ab):Av:=⟨ta,lt.length,ca,Be lt,oa,lo.length,co,Aa lo⟩
def Bz.at{ca co:Nat}{ta oa:Option Addr}(h:Bz w B (.slice ta lt.length ca) (.slice oa lo.length co) lt lo)(h1:lt.length<=1048576)(h2:lo.length<=1048576)(h3:∀x∈lo,x.data.size<=maxLen):(Df ta ca oa co lt lo).at w:=
 ⟨qj h1 (by unfold maxLen;omega),qj h2 (by unfold maxLen;omega),h.t.lies (fun x hx=>(h.tn x hx).at),h.o.lies (fun x hx=>⟨(h.on x hx).1.1,(h.on x hx).2.1.1,(h.on x hx).2.2.1.1,(h.on x hx).2.2.2.1,h3 x hx⟩)⟩
def Bz.addT{vt':qB}{x:Ae}(h:Bz w B vt vo lt lo)(ho:Du w' B vt' (lt++[x]))(hg:w.grownBy w' vt.ownBlock)(hx:x.new B w)(hc:x.own.n<=x.own.k/\x.own.k<=maxLen):Bz w' B vt' vo (lt++[x]) lo/\Dk w w':=by
 have kk:Dk w w':=⟨hg.size,fun k cs t hk h1 _=>hg.block k (jN?_eq_some_iff.1 hk).1 (fun e=>by
  rcases h.t.2 with⟨hv,_⟩|⟨g,cap,cur,hv,_,hgg,_⟩
  ·rw[hv]at e;cases e
  ·rw[hv]at e;cases e;rw[hgg]at hk;simp only[jV.injEq,Obj.cells.injEq,and_true]at hk;exact h1 hk.2.symm)⟩
 refine⟨⟨ho,?_,fun y hy=>?_,fun y hy=>(h.on y hy).keeps kk.l,fun y hy=>?_,h.oc⟩,kk⟩
 ·refine⟨h.o.1,?_⟩;rcases h.o.2 with hn|⟨g,cap,cur,hv,hbg,hgg,rest⟩
  ·exact .inl hn
  ·refine .inr ⟨g,cap,cur,hv,hbg,?_,rest⟩;refine(hg.block g (jN?_eq_some_iff.1 hgg).1 (fun e=>?_)).trans hgg;rcases h.t.2 with⟨hv,_⟩|⟨g',cap',cur',hv',_,hgg',_⟩
   ·rw[hv]at e;cases e
   ·rw[hv']at e;cases e;rw[hgg']at hgg;simp at hgg
 ·rcases jq.1 hy with hy|hy
  ·exact(h.tn y hy).keeps kk.l
  ·rw[kW.1 hy];exact hx.keeps kk.l
 ·rcases jq.1 hy with hy|hy
  ·exact h.tc y hy
  ·rw[kW.1 hy];exact hc
def Bz.addO{vo':qB}{x:Ab}(h:Bz w B vt vo lt lo)(ho:AW w' B vo' (lo++[x]))(hg:w.grownBy w' vo.ownBlock)(hx:x.new B w)(hc:x.jA.n<=x.jA.k/\x.jA.k<=maxLen):Bz w' B vt vo' lt (lo++[x])/\Dk w w':=by
 have kk:Dk w w':=⟨hg.size,fun k cs t hk _ h1=>hg.block k (jN?_eq_some_iff.1 hk).1 (fun e=>by
  rcases h.o.2 with⟨hv,_⟩|⟨g,cap,cur,hv,_,hgg,_⟩
  ·rw[hv]at e;cases e
  ·rw[hv]at e;cases e;rw[hgg]at hk;simp only[jV.injEq,Obj.cells.injEq,and_true]at hk;exact h1 hk.2.symm)⟩
 refine⟨⟨?_,ho,fun y hy=>(h.tn y hy).keeps kk.l,fun y hy=>?_,h.tc,fun y hy=>?_⟩,kk⟩
 ·refine⟨h.t.1,?_⟩;rcases h.t.2 with hn|⟨g,cap,cur,hv,hbg,hgg,rest⟩
  ·exact .inl hn
  ·refine .inr ⟨g,cap,cur,hv,hbg,?_,rest⟩;refine(hg.block g (jN?_eq_some_iff.1 hgg).1 (fun e=>?_)).trans hgg;rcases h.o.2 with⟨hv,_⟩|⟨g',cap',cur',hv',_,hgg',_⟩
   ·rw[hv]at e;cases e
   ·rw[hv']at e;cases e;rw[hgg']at hgg;simp at hgg
 ·rcases jq.1 hy with hy|hy
  ·exact(h.on y hy).keeps kk.l
  ·rw[kW.1 hy];exact hx.keeps kk.l
 ·rcases jq.1 hy with hy|hy
  ·exact h.oc y hy
  ·rw[kW.1 hy];exact hc
end Go.Proofs.YtdaccbddcjlkpaaGreatDoor
