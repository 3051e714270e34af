import Derived.Test.YteoihknaljgocaaGreatDoorZ4m
set_option maxRecDepth 100000
set_option maxHeartbeats 8000000
namespace Go.Proofs.YteoihknaljgocaaGreatDoor
open Go Go.RowKit Go.Deep Go.Maps Go.Proofs.Tryz
def MV(N:Nat):Value:= .func (.func 140) #[] #[.pointer (some ⟨N+1,0,none⟩),.pointer N,.pointer (some ⟨N+1+1,0,none⟩)]
structure LR(w0:World)(c:Nat)(w:World)(v:Value)(l:List Int):Prop where
 b:Below w0 w0 w
 q:Ag w w0 (.cells #[.map (some c)] 71)
 p:Ag w (w0.heap.size+1) (.cells #[v] 37)
 r:Ag w (w0.heap.size+1+1) (.cells #[MV w0.heap.size] 199)
 o:Ay w (w0.heap.size+1+1+1) v l
theorem Ag.grown{w w':World}{P:Nat}{o:Obj}{row:Option Nat}(h:Ag w P o)(hg:w.grownBy w' row)(hne:some P≠row):Ag w' P o:=(hg.block P h.lt hne).trans h
theorem LR.push{w0 w w':World}{c:Nat}{v v':Value}{l:List Int}{x:Int}(h:LR w0 c w v l)(ho:Ay w' (w0.heap.size+1+1+1) v' (l++[x]))(hg:(w.alloc (.cells #[.int .i64 x] 2)).grownBy w' v.ownBlock):
 LR w0 c (w'.setCell ⟨w0.heap.size+1,0,none⟩ v') v' (l++[x]):=by
 have b1:Below w w (w.alloc (.cells #[.int .i64 x] 2)):=Bf w _;have hne:∀k,k<w0.heap.size+1+1+1->some k≠v.ownBlock:=fun k hk e=>by have:=(World.ownsRow.lt h.o k e.symm).1;omega
 have p1:=(h.p.below b1).grown hg (hne _ (by omega));have q1:=(h.q.below b1).grown hg (hne _ (by omega));have r1:=(h.r.below b1).grown hg (hne _ (by omega));refine⟨?_,q1.other (by omega) _,?_,r1.other (by omega) _,?_⟩
 ·exact((h.b.trans (b1.mono h.b.size)).trans (below_grown hg (by have:=h.q.lt;simp;omega) (fun j hj=>by have:=(World.ownsRow.lt h.o j hj).1;omega))).setCell (by dsimp only;omega) _
 ·simpa using p1.jB (i:=0) v'
 ·exact World.ownsRow.kept ho (row:=some (w0.heap.size+1)) ⟨rfl,rfl,rfl,by rw[nblk_setCell];exact Nat.le_refl _,fun j hj hne=>blk_setCell_other _ _ _ _ (by dsimp only;intro e;exact hne (by rw[e]))⟩ (.inr (fun e=>by have:=(World.ownsRow.lt ho _ e).1;omega))
theorem Iw(ids ups:Nat->Int)(n i:Nat):Bz ids ups n i=(Dy ids ups n i).map ids:=rfl
theorem Xd(l:List Nat)(f:Nat->List Nat)(j:Nat)(hj:j<l.length):((l.take j).flatMap f).length+(f l[j]).length<=(l.flatMap f).length:=by
 have e:l=l.take j++(l[j]::l.drop (j+1)):=by simp
 have:l.flatMap f=(l.take j).flatMap f++(f l[j]++(l.drop (j+1)).flatMap f):=by
  conv=>lhs;rw[e]
  rw[List.flatMap_append,List.flatMap_cons]
 rw[this,List.length_append,List.length_append];omega
theorem Xp(w0:World)(B c n:Nat)(ids ups:Nat->Int)(ob off:Nat)(nb:Nat->Nat)(kv:Nat->Value)(hN:Eb w0 B c n ids ob off nb kv (Bz ids ups n))(hr:Du ids n)(h0:∀j,j<n->ids j≠ups 0)
 (hw:∀i,i<n->(Lit.int .i64 (ids i)).wf=true)(hn:n<=271)(f:Nat):
 ∀(i:Nat) (l:List Int) (v:Value) (w:World),i<n->(∀j m,j<n->Bq ids ups n m j=some i->m<f)->l.length+(FG ids ups n f i).length<=271->LR w0 c w v l->
  Calls prog 140 #[.int .i64 (ids i),.pointer (some ⟨w0.heap.size+1,0,none⟩),.pointer (w0),.pointer (some ⟨w0.heap.size+1+1,0,none⟩)] w fun e w'=>
   ∃v',e= .returned (.tuple #[])/\LR w0 c w' v' (l++(FG ids ups n f i).map ids):=by
 have HN:=hid hN;have HR:=hid hr;have H0:=hid h0;have HW:=hid hw;clear hN hr h0 hw;induction f with
 |zero=>intro i l v w hi hh;exact absurd (hh i 0 hi rfl) (by omega)
 |succ f ih=>
  intro i l v w hi hh hl hk;have IH:=hid ih;have HH:=hid hh;have HK:=hid hk;have hlen:l.length+1<=271:=by simp[FG]at hl;omega
  have HL:=hid hl;clear ih hh hk hl;have x1:_=some v:=HK.out.p.c0 0 rfl;have L1:=hid (DD.one (w:=w) (ids i));have n1:Nw (w.alloc (.cells #[.int .i64 (ids i)] 2)):=⟨⟩;have b1:Below w w n1:=Bf w _;have O1:Hid (Ay n1 (w0.heap.size+1+1+1) v l):=hid (Ay.alloc HK.out.o _);have hs:=HK.out.r.lt;have s1:w0.heap.size+1+1+1<=(n1:World).heap.size:=by simp;omega
  have P1:Hid (∀w':World,(n1:World).grownBy w' v.ownBlock->Ag w' (w0.heap.size+1) (.cells #[v] 37)):=hid (fun w' hg=>(HK.out.p.below b1).grown hg (fun e=>by have:=(World.ownsRow.lt HK.out.o _ e.symm).1;omega));clear b1;obtain⟨ka,kc,hkv⟩:=Df (HN.out.own i hi);have KV:=hid hkv;clear hkv;have D3:Hid (∀(a3:Option Addr) (c3:Nat) (w3:World),Ay w3 (w0.heap.size+1+1+1) (.slice a3 (l++[ids i]).length c3) (l++[ids i])->(n1:World).grownBy w3 v.ownBlock->
   LR w0 c (w3.setCell ⟨w0.heap.size+1,0,none⟩ (.slice a3 (l.length+1) c3)) (.slice a3 (l.length+1) c3) (l++[ids i])):=hid (fun a3 c3 w3 o3 g3=>HK.out.push (by simpa using o3) g3)
  have E3:Hid (∀(W:World) (v':Value) (l':List Int),LR w0 c W v' l'->W.cell? ⟨w0,0,none⟩=some (.map (some c))/\(Instr.lookup 71 (.map (some c)) (.int .i64 (ids i)) false).run prog W= .ok (.pointer (nb i)) W/\W.cell? ⟨nb i,1,none⟩=some (.slice ka (Bz ids ups n i).length kc)):=hid (fun W v' l' hk=>by
   have N2:=HN.out.below hk.b;have LK:=N2.map.look (HW i hi);rw[Dt HR.out hi]at LK;exact⟨hk.q.c0 0 rfl,LK,by rw[<-KV.out];exact(N2.blk i hi).c0 1 rfl⟩)
  have hm:(Bz ids ups n i).length<=271:=by have:=Ix ids ups n i;omega
  go_enter func140,ntmps140
  go_wp2_with(refine Eg _ rfl _ _ rfl (w0.heap.size+1+1+1) v l rfl O1 _ 1 1 [ids i] rfl rfl L1 (by omega) s1 ?_;intro a3 c3 w3 o3 g3 v3;have p3:=P1.out w3 g3;have z1:_=some v:=p3.c0 0 rfl;have z2:=p3.jC 0;have K2:=hid (D3.out a3 c3 w3 o3 g3);obtain⟨y0,LK,y1⟩:=E3.out _ _ _ K2.out;clear o3 g3 v3 p3)
  clear z1 z2 y0 LK y1 x1 L1 O1 P1 D3 E3 HK s1;generalize w3.setCell ⟨w0.heap.size+1,0,none⟩ (.slice a3 (l.length+1) c3)=W at *;generalize Value.slice a3 (l.length+1) c3=v2 at *;clear hs;have hml:(Bz ids ups n i).length=(Dy ids ups n i).length:=by rw[Iw,List.length_map]
  have HML:=hid hml;clear hml;go_loopw [18] (fun t wr=>∃(j:Nat) (v':Value),j<=(Bz ids ups n i).length/\t= .int .i64 j/\Hid (LR w0 c wr v' (l++[ids i]++(((Dy ids ups n i).take j).flatMap (FG ids ups n f)).map ids))) (fun t _=>(Bz ids ups n i).length-(intOf t).toNat)
  case atStart=>exact⟨0,v2,Nat.zero_le _,rfl,hid (by simpa using K2.out)⟩
  case round=>
   obtain⟨j,v',hj,rfl,HWk⟩:=hrel;clear K2;by_cases hlt:j<(Bz ids ups n i).length
   ·have i1:(j:Int)<((Bz ids ups n i).length:Int):=(by omega);have i0:(0:Int)<=(j:Int):=(by omega);have hj2:j<(Dy ids ups n i).length:=(by have:=HML.out;omega);have ow:=(HN.out.below HWk.out.b).own i hi;rw[KV.out]at ow;obtain⟨b,o,rfl,_,hcc⟩:=Ay.lies ow (by omega);have g1:wr.cell? ⟨b,o+j,none⟩=some (.int .i64 (ids (Dy ids ups n i)[j])):=hcc j _ (by simp[Iw,hj2]);have r1:wr.cell? ⟨w0.heap.size+1+1,0,none⟩=some (MV w0):=HWk.out.r.c0 0 rfl;unfold MV at r1;obtain⟨k1,k2⟩:=(FV HR H0 hi).1 (List.getElem_mem hj2);have CK:=hid (IH.out (Dy ids ups n i)[j] _ v' wr k1 (fun a m ha e=>by
     have:=HH.out a (m+1) ha (by rw[DW,e];exact k2);omega) (by
     have h1:=HL.out;have h2:=Xd (Dy ids ups n i) (FG ids ups n f) j hj2;simp only[FG,List.length_cons]at h1;simp only[List.length_append,List.length_map,List.length_cons,List.length_nil];omega) HWk)
    have EX:Hid (l++[ids i]++(((Dy ids ups n i).take j).flatMap (FG ids ups n f)).map ids++(FG ids ups n f (Dy ids ups n i)[j]).map ids=l++[ids i]++(((Dy ids ups n i).take (j+1)).flatMap (FG ids ups n f)).map ids):=hid (by
     rw[List.take_succ_eq_append_getElem hj2,List.flatMap_append,List.map_append];simp)
    generalize ids (Dy ids ups n i)[j]=y at *;clear hcc ow k1 k2;go_wp2_with(go_at_call 140;refine CK.out.mono ?_;rintro e w4 ⟨v4,rfl,h4⟩;have H4:=hid h4;clear h4)
    have H5:=H4.out;rw[EX.out]at H5;exact⟨⟨j+1,v4,by omega,by go_num,hid H5⟩,by simp[intOf];omega⟩
   ·have e:j=(Dy ids ups n i).length:=(by have:=HML.out;omega);have i1:¬(j:Int)<((Bz ids ups n i).length:Int):=(by omega);have H5:=HWk.out;rw[e,List.take_length]at H5;have H6:Hid (LR w0 c wr v' (l++(FG ids ups n (f+1) i).map ids)):=hid (by simpa[FG]using H5);clear H5 e HWk;go_wp2;exact bodyPost_end (v:= .tuple #[]) (by simp[results,Tryz.results140,go_sem]) rfl ⟨rfl,_,H6⟩
open Go.BigFrame Go.Shelf
theorem Vw(tmps:Array Value)(W:World)(P:Nat)(x y:Value)(h:Ag W P (.cells #[x,y] 30))(h2:tmps[2]? =some (.pointer P)):
 (results Tryz.f104 tmps).run prog W= .ok (.agg #[x,y]) W:=by
 obtain⟨z0,z1⟩:=h.two;simp[results,Tryz.results104,go_sem,h2,z0,z1]
theorem AM.madeAt(w:World)(B:Nat)(hb:B<=w.heap.size)(f g:Nat->Int):AM (w.alloc (.cells #[] 78)) B (.slice (w) 0 0) 0 f g:=World.ownsRow_made w #[] 0 hb (Nat.zero_le _) rfl
theorem AM.newL{w:World}{B n c:Nat}{a:Option Addr}{f g:Nat->Int}(h:AM w B (.slice a n c) n f g)(hn:n<=1048576):Ar.new B w ⟨a,n,c,f,g⟩:=
 ⟨⟨by unfold maxLen;simp only;omega,h.cats⟩,fun h0=>Dl h h0⟩
theorem Cu(b:Int)(c:Ar)(w:World)(hc:c.at w)(hn:c.n<=1048576):
 Calls prog 104 #[.agg #[.int .i64 b,c.val]] w fun e w'=>∃d:Ar,e= .returned (.agg #[.int .i64 b,d.val])/\c.same d/\d.new w w'/\Below w w w':=by
 obtain⟨a,n,cap,f,g⟩:=c;unfold Ar.val;simp only at hn ⊢;have n1:No (.cells #[.int .i64 0,.slice none 0 0] 30):=⟨⟩;have n2:No (.cells #[.int .i64 b,.slice a n cap] 30):=⟨⟩;have b0:Below w w ((w.alloc n2).alloc n1):=(Bf w _).alloc (by simp) _;have A0:=(Ag.new w n2).alloc n1;have R0:Ag ((w.alloc n2).alloc n1) (w.heap.size+1) n1:=by
  have:=Ag.new (w.alloc n2) n1;simpa using this
 have T0:=hid (hc.below b0).2;simp only at T0;obtain⟨x0,x1⟩:=A0.two;clear hc;go_enter func104,ntmps104
 go_wp2;generalize hV:((w.alloc n2).alloc n1)=V at *;have n3:Nw (V.alloc (.cells #[] 78)):=⟨⟩;have bm:Below V V ((n3:World).drew):=AF (Bf V _);have n4:Nv (.slice (V) 0 0):=⟨⟩;have OM:Hid (AM ((n3:World).drew) w n4 0 f g):=hid (AM.madeAt V w b0.size f g);have TM:=hid (T0.out.below bm);have s1:w.heap.size<=((n3:World).drew).heap.size:=(Af b0 bm).size;have lm:n<=4194304:=by omega
 have R1:=hid (R0.below bm);have B1:=hid (Af b0 bm);obtain⟨y0,y1⟩:=(A0.alloc (.cells #[] 78)).two;have px:¬w.heap.size=V.heap.size:=by have:=A0.lt;omega
 have vlt:w.heap.size+1<V.heap.size:=R0.lt;have RG:Hid (∀w3:World,((n3:World).drew).grownBy w3 (some V)->Ag w3 (w.heap.size+1) n1):=hid (fun w3 g3=>R1.out.grown g3 (by simp;omega));have A1:=hid (A0.below bm);have AG:Hid (∀w3:World,((n3:World).drew).grownBy w3 (some V)->Ag w3 w n2):=hid (fun w3 g3=>A1.out.grown g3 (by simp;omega));clear hV bm A0 R0 T0;go_region_law(refine Hs _ (by rfl) _ _ (by rfl) w n4 f g (by rfl) OM a n cap f g (by rfl) TM lm s1 ?_;intro a3 c3 w3 o3 g3 v3;have O3:=hid o3;have G3:=hid g3;have RR:=hid (RG.out w3 g3);obtain⟨r0,r1⟩:=RR.out.two;have rf:=RR.out.jC;obtain⟨q0,q1⟩:=(AG w3 g3).two;clear o3 g3 v3)
 all_goals(
  have B3:Hid (Below w w w3):=hid (B1.out.trans (below_grown G3 B1.out.size (fun j hj=>by cases hj;show w.heap.size<=V.heap.size;omega)));have N3:=hid (O3.out.newL hn);clear G3 O3 OM TM RG x0 x1 y0 y1 q0 q1 AG A1;go_wp2;refine bodyPost_ret (Vw _ _ (w.heap.size+1) (.int .i64 b) (.slice a3 n c3) ((RR.out.jB (i:=0) _).jB (i:=1) _) rfl) rfl ⟨⟨a3,n,c3,f,g⟩,rfl,⟨rfl,rfl,rfl⟩,?_,?_⟩
  ·refine N3.out.of (by simp) (fun q hq hn'=>?_);have q2:=N3.out.ne RR (by decide) q hq hn';iterate 2 rw[blk_setCell_other _ _ _ _ (by dsimp only;omega)]
  ·iterate 2 refine Below.setCell ?_ (by dsimp only;omega) _
   exact B3.out)
variable {w w':World}{a:Option Addr}{b n B lo hi:Nat}{row:Option Nat}{v:Value}{l:List Int}
theorem DK{a b:World}{P:Nat}(h:a.grownBy b (some P))(i:Nat)(v:Value):a.grownBy (b.setCell ⟨P,i,none⟩ v) (some P):=
 ⟨h.os,h.tape,h.output,by rw[nblk_setCell];exact h.size,fun j hj hne=>(blk_setCell_other _ _ _ _ (by dsimp only;intro e;exact hne (by rw[e]))).trans (h.block j hj hne)⟩
theorem Cs(a:World)(P:Nat):a.grownBy a (some P):=⟨rfl,rfl,rfl,Nat.le_refl _,fun _ _ _=>rfl⟩
def Qt(w:World)(a:Option Addr)(b n:Nat):Prop:=0<n->a=some ⟨b,0,none⟩/\∃m F,n<=m/\w.rowIs b 2 m F
theorem Qt.below(h:Qt w a b n)(hb:Below w w w'):Qt w' a b n:=fun h0=>by
 obtain⟨e,m,F,hm,hr⟩:=h h0;exact⟨e,m,F,hm,hr.of_block (hb.block b hr.lt)⟩
theorem Qt.grown(h:Qt w a b n)(hg:w.grownBy w' row)(hne:some b≠row):Qt w' a b n:=fun h0=>by
 obtain⟨e,m,F,hm,hr⟩:=h h0;exact⟨e,m,F,hm,hr.of_block (hg.block b hr.lt hne)⟩
theorem Qt.lt(h:Qt w a b n)(h0:0<n):b<w.heap.size:=by
 obtain⟨_,m,F,_,hr⟩:=h h0;exact hr.lt
theorem Be.grown{h:Nat->Int}(hc:Be w a n h)(hr:Qt w a b n)(hg:w.grownBy w' row)(hne:0<n->some b≠row):Be w' a n h:=fun h0=>by
 obtain⟨b',off,e,hlt,hcc⟩:=hc h0;obtain⟨e2,m,F,hm,hrow⟩:=hr h0;have e3:=e.symm.trans e2;simp only[Option.some.injEq,Addr.mk.injEq]at e3;obtain⟨rfl,_,_⟩:=e3;refine⟨b',off,e,Nat.lt_of_lt_of_le hlt hg.size,fun i hi=>?_⟩;have hb:=hg.block b' hlt (hne h0);exact(by simp only[World.cell?];rw[hb]:w'.cell? ⟨b',off+i,none⟩=w.cell? ⟨b',off+i,none⟩).trans (hcc i hi)
theorem Ay.of_block(h:Ay w B v l)(hb:∀g,v.ownBlock=some g->w'.heap[g]? =w.heap[g]?):Ay w' B v l:=by
 refine⟨h.1,?_⟩;rcases h.2 with hn|⟨g,cap,cur,rfl,h1,h2,rest⟩
 ·exact .inl hn
 ·exact .inr ⟨g,cap,cur,rfl,h1,(hb g rfl).trans h2,rest⟩
theorem Ay.below(h:Ay w B v l)(hb:Below w w w'):Ay w' B v l:=h.of_block fun g hg=>hb.block g (World.ownsRow.lt h g hg).2
theorem Ay.mk(h:Ay w B v l)(hm:Mk lo hi w w')(hb:∀g,v.ownBlock=some g->g<lo∨hi<=g):Ay w' B v l:=h.of_block fun g hg=>hm.block g (World.ownsRow.lt h g hg).2 (hb g hg)
theorem Mk.below{w0:World}(h0:Below w0 w0 w)(h:Mk lo hi w w')(hB:w0.heap.size<=lo):Below w0 w0 w':=
 ⟨h.os.trans h0.os,h.tape.trans h0.tape,h.output.trans h0.output,Nat.le_trans h0.size h.size,fun k hk=>(h.block k (Nat.lt_of_lt_of_le hk h0.size) (.inl (by omega))).trans (h0.block k hk)⟩
variable {w:World}{B:Nat}
theorem PI(tmps:Array Value)(W:World)(P:Nat)(x0 x1 x2 x3 x4 x5 x6:Value)(h:Ag W P (.cells #[x0,x1,x2,x3,x4,x5,x6] 39))(h2:tmps[2]? =some (.pointer P)):
 (results Tryz.f98 tmps).run prog W= .ok (.agg #[x0,x1,x2,x3,x4,x5,x6]) W:=by
 obtain⟨z0,z1,z2,z3,z4,z5,z6⟩:=h.seven;simp[results,Tryz.results98,go_sem,h2,z0,z1,z2,z3,z4,z5,z6]
theorem CZ{e size n c:Nat}{a:Option Addr}{xs:List Value}(h:w.ownsRow B e size (.slice a n c) n xs):n<=c/\c<=maxLen:=by
 rcases h.2 with⟨hv,hn⟩|⟨g,cap,cur,hv,_,_,h1,h2,_⟩
 ·simp only[Value.slice.injEq]at hv;exact⟨by omega,by rw[hv.2.2];exact Nat.zero_le _⟩
 ·simp only[Value.slice.injEq]at hv;rw[hv.2.2];exact⟨h1,h2⟩
theorem Gh{ops:Array Oper}{o:Oper}{a:Act}{w:World}{K:Act->World->Prop}{Q:Exit->Act->World->Prop}{E:Prop}(hgd:o.guard=none)(s x:Operand)
 (ho:o.op= .call {callee:= .builtin .append,args:=#[s,x],argTypes:=#[37,37]})
 (B:Nat)(g:Nat)(hs:a.eval s= .slice g 0 0)(hown:Ay w B (.slice g 0 0) [])(ad:Option Addr)(m c:Nat)(f:Nat->Int)(hx:a.eval x= .slice ad m c)(hc:Be w ad m f)
 (hm:m<=1048576)(hB:B<=w.heap.size)
 (h:∀a' c' w',AJ.new B w' ⟨a',m,c',f⟩->(m<=c'/\c'<=maxLen)->w.grownBy w' (some g)->K (a.put o.dst (.slice a' m c')) w'):
 if Region.wanted o (yielded ops a.tmps)=true then Oper.wp prog o a w K Q else E:=by
 have hw:Region.wanted o (yielded ops a.tmps)=true:=by simp[Region.wanted,hgd]
 rw[if_pos hw];have L0:=hc.intL;have el:((List.range m).map f).length=m:=by simp
 have L:Bp w ad m (((List.range m).map f).map (Value.int .i64)):=by unfold DD at L0;rw[el]at L0;exact L0
 refine Dw underlying37 Tryz.info2 rfl (by omega) w s x ho B _ 0 [] hs hown ad m c (((List.range m).map f).map (Value.int .i64)) hx (by simp) L (fun u hu=>by obtain⟨y,_,rfl⟩:=List.mem_map.1 hu;rfl) (by omega) (by omega) hB fun a' c' w' h2 h3 _=>?_;rw[Nat.zero_add,List.nil_append]at h2;rw[Nat.zero_add];refine h a' c' w' ?_ (CZ h2) h3;have ho':Ay w' B (.slice a' ((List.range m).map f).length c') ((List.range m).map f):=by unfold Ay;rw[el];exact h2
 have hi:Be w' a' m f:=fun h0=>by
  obtain⟨b,off,e,hlt,hcc⟩:=(Ay.lies ho').ints (by rw[el];exact h0);refine⟨b,off,e,hlt,fun i hi=>?_⟩;have:=hcc i (by rw[el];exact hi);rw[this];simp[AV,hi]
 exact⟨⟨by unfold maxLen;simp only;omega,hi⟩,fun h0=>by have:=Dl h2 h0;simpa using this⟩
theorem Oi{b m g:Nat}{F:Nat->Value}(hr:w.rowIs b 78 m F)(ho:Ay w B (.slice g 0 0) []):b≠g:=fun e=>by
 obtain⟨cur,hb⟩:=Lt ho (g:=g) rfl;obtain⟨c,h1,_⟩:=hr;rw[e,hb]at h1;simp at h1
theorem Ar.new.over{w':World}{c:Ar}(h:c.new B w)(hs:w.heap.size<=w'.heap.size)(hb:∀b m F,w.rowIs b 78 m F->w'.heap[b]? =w.heap[b]?):c.new B w':=h.of hs (fun b e hn=>by
 obtain⟨b',m,F,e',_,_,hr⟩:=h.2 hn;rw[e]at e';cases e';exact hb b m F hr)
theorem Lx(t:Ae)(w:World)(ht:t.at w)(hs:t.small):
 Calls prog 98 #[t.val] w fun e w'=>∃u:Ae,e= .returned u.val/\t.same u/\u.new w w'/\(u.own.n<=u.own.k/\u.own.k<=maxLen)/\Below w w w':=by
 have n4:No (.cells #[.int .i64 0,.int .i64 0,.slice none 0 0,.int .i64 0,.slice none 0 0,.slice none 0 0,.int .i64 0] 39):=⟨⟩;have b0:Below w w ((w.alloc t.blk).alloc n4):=(Bf w _).alloc (by simp) _;have A0:=(Ag.new w t.blk).alloc n4;have R0:Ag ((w.alloc t.blk).alloc n4) (w.heap.size+1) n4:=by
  have:=Ag.new (w.alloc t.blk) n4;simpa using this
 have T0:=hid (ht.below b0);unfold Ae.blk at b0 A0 R0 T0;unfold Ae.val;obtain⟨x0,x1,x2,x3,x4,x5,x6⟩:=A0.seven;obtain⟨m1,m2,m3⟩:=hs;clear ht;unfold AJ.val at *;go_enter func98,ntmps98
 go_wp2;have n5:No (.cells #[t.id,t.b1,t.c1.val,t.b2,t.c2.val,t.own,t.made] 39):=⟨⟩;generalize hV:((w.alloc n5).alloc n4)=V at *;have B0:=hid b0;have A0':Hid (∀W,Below V V W->Ag W w n5):=hid (fun W h=>A0.below h);have R0':=hid R0;have PA:Hid (∀W,Below V V W->Calls prog 104 #[.agg #[t.b1,t.c1.val]] W fun e w'=>∃d:Ar,e= .returned (.agg #[t.b1,d])/\t.c1.same d/\d.new W w'/\Below W W w'):=hid (fun W hW=>Cu t.b1 t.c1 W (T0.out.below hW).1 m1);have PB:Hid (∀W,Below V V W->Calls prog 104 #[.agg #[t.b2,t.c2.val]] W fun e w'=>∃d:Ar,e= .returned (.agg #[t.b2,d])/\t.c2.same d/\d.new W w'/\Below W W w'):=hid (fun W hW=>Cu t.b2 t.c2 W (T0.out.below hW).2.1 m2);have TO:Hid (∀W,Below V V W->Be W t.own.a t.own.n t.own.h):=hid (fun W hW=>(T0.out.below hW).2.2.2);clear hV b0 A0 R0;have V0:Hid (Below V V V.drew):=hid (Below.refl _ V).drew;have V0a:Hid (Below V V ((V.alloc (.cells #[] 2)).drew)):=hid (AF (Bf V _));have EO0:Hid (Ay ((V.alloc (.cells #[] 2)).drew) w (.slice (V) 0 0) []):=hid (Ay.made V w B0.out.size);have Ml:w.heap.size<V.heap.size:=(A0' V (Below.refl _ V)).lt;have nx0:¬w.heap.size=V.heap.size:=by omega
 obtain⟨y0,y1,y2,y3,y4,y5,y6⟩:=(A0' _ V0a).seven;have ne1:¬w.heap.size=w.heap.size+1:=by omega
 have ne2:¬w.heap.size+1=w.heap.size:=by omega
 have mk1:True:=trivial;have mk2:True:=trivial;go_region_held3(fun w'=>w'.cell? ⟨w,0,none⟩=some (.int .i64 t.id)/\w'.cell? ⟨w,1,none⟩=some (.int .i64 t.b1)/\w'.cell? ⟨w,2,none⟩=some t.c1.val/\w'.cell? ⟨w,3,none⟩=some (.int .i64 t.b2)/\w'.cell? ⟨w,4,none⟩=some t.c2.val/\w'.cell? ⟨w,5,none⟩=some (.slice t.own.a t.own.n t.own.k)/\w'.cell? ⟨w,6,none⟩=some (.int .i64 t.made)) (first|go_keep|(simp only[*,and_self]))
  (first
    |(go_at_call 104;have mq:=mk1;clear mk1;first|(refine(PA _ V0).mono ?_;rintro e w1 ⟨d1,rfl,s1,n1,h1⟩;have V1:=hid (Af V0 h1);have LN1:=hid (n1.low (Nat.le_trans B0.out.size V0.out.size));have S1:=hid s1;obtain⟨e0,e1,e2,e3,e4,e5,e6⟩:=(A0' _ V1).seven;have V1a:=hid (V1.out.alloc V1.out.size (.cells #[] 2));have lt1:w.heap.size<w1.heap.size:=(A0' _ V1).lt;have nx1:¬w.heap.size=w1.heap.size:=(by omega);obtain⟨p0,p1,p2,p3,p4,p5,p6⟩:=(A0' _ V1a).seven)|(refine(PA _ V0a).mono ?_;rintro e w1 ⟨d1,rfl,s1,n1,h1⟩;have V1:=hid (Af V0a h1);have LN1:=hid (n1.low (Nat.le_trans B0.out.size V0a.out.size));have S1:=hid s1;obtain⟨e0,e1,e2,e3,e4,e5,e6⟩:=(A0' _ V1).seven;have EO1:=hid (EO0.out.below h1);have V1a:=hid (V1.out.alloc V1.out.size (.cells #[] 2));have lt1:w.heap.size<w1.heap.size:=(A0' _ V1).lt;have nx1:¬w.heap.size=w1.heap.size:=(by omega);obtain⟨p0,p1,p2,p3,p4,p5,p6⟩:=(A0' _ V1a).seven))
    |(go_at_call 104;have mq':=mk2;clear mk2;first|(refine(PB _ V1).mono ?_;rintro e w2 ⟨d2,rfl,s2,n2,h2⟩;have V2:=hid (Af V1 h2);have LN2:=hid (n2.low (Nat.le_trans B0.out.size V1.out.size));have H12:=hid h2;have S2:=hid s2;obtain⟨f0,f1,f2,f3,f4,f5,f6⟩:=(A0' _ V2).seven;have EO2:=hid (EO1.out.below h2);have V2a:=hid (V2.out.alloc V2.out.size (.cells #[] 2));have lt2:w.heap.size<w2.heap.size:=(A0' _ V2).lt;have nx2:¬w.heap.size=w2.heap.size:=(by omega);obtain⟨r0,r1,r2,r3,r4,r5,r6⟩:=(A0' _ V2a).seven)|(refine(PB _ V1).mono ?_;rintro e w2 ⟨d2,rfl,s2,n2,h2⟩;have V2:=hid (Af V1 h2);have LN2:=hid (n2.low (Nat.le_trans B0.out.size V1.out.size));have H12:=hid h2;have S2:=hid s2;obtain⟨f0,f1,f2,f3,f4,f5,f6⟩:=(A0' _ V2).seven;have V2a:=hid (V2.out.alloc V2.out.size (.cells #[] 2));have lt2:w.heap.size<w2.heap.size:=(A0' _ V2).lt;have nx2:¬w.heap.size=w2.heap.size:=(by omega);obtain⟨r0,r1,r2,r3,r4,r5,r6⟩:=(A0' _ V2a).seven)|(have EOm:=hid (Ay.made w1 w (Nat.le_trans B0.out.size V1.out.size));(refine(PB _ V1a).mono ?_;rintro e w2 ⟨d2,rfl,s2,n2,h2⟩;have V2:=hid (Af V1a h2);have LN2:=hid (n2.low (Nat.le_trans B0.out.size V1a.out.size));have H12:=hid (Af (Bf w1 (.cells #[] 2)) h2);have S2:=hid s2;obtain⟨f0,f1,f2,f3,f4,f5,f6⟩:=(A0' _ V2).seven;have EO2:=hid (EOm.out.below h2);have V2a:=hid (V2.out.alloc V2.out.size (.cells #[] 2));have lt2:w.heap.size<w2.heap.size:=(A0' _ V2).lt;have nx2:¬w.heap.size=w2.heap.size:=(by omega);obtain⟨r0,r1,r2,r3,r4,r5,r6⟩:=(A0' _ V2a).seven)))
    |(refine Gh (by rfl) _ _ (by rfl) w V (by rfl) EO2 _ _ _ t.own.h (by rfl) (TO _ V2) m3 (V2.out.size |> Nat.le_trans B0.out.size) ?_;intro a3 c3 w3 n3 cp3 g3;have CAP:=hid cp3;clear cp3;have HB3:Hid (∀b m F,w2.rowIs b 78 m F->w3.heap[b]? =w2.heap[b]?):=hid (fun b m F hr=>g3.block b hr.lt (fun e=>Oi hr EO2 (Option.some.inj e)));have SZ3:=hid g3.size;have NG:Hid (∀k,k<V.heap.size->some k≠some V):=hid (fun k hk e=>Nat.lt_irrefl _ (Nat.lt_of_lt_of_le (Option.some.inj e▸hk) (Nat.le_refl _)));have B3:Hid (Below V V w3):=hid (V2.out.trans (below_grown g3 V2.out.size (fun j hj=>by cases hj;exact Nat.le_refl _)));have X3:=hid (V2.out);obtain⟨g0,g1,g2,g3',g4,g5,g6⟩:=(A0' _ B3).seven;obtain⟨k0,k1,k2,k3,k4,k5,k6⟩:=(R0'.out.below B3).seven;have kf:=(R0'.out.below B3).jC;have N3:=hid n3;have G3:=hid g3;clear n3 g3)
    |(refine Gh (by rfl) _ _ (by rfl) w w1 (by rfl) EO2 _ _ _ t.own.h (by rfl) (TO _ V2) m3 (V2.out.size |> Nat.le_trans B0.out.size) ?_;intro a3 c3 w3 n3 cp3 g3;have CAP:=hid cp3;clear cp3;have HB3:Hid (∀b m F,w2.rowIs b 78 m F->w3.heap[b]? =w2.heap[b]?):=hid (fun b m F hr=>g3.block b hr.lt (fun e=>Oi hr EO2 (Option.some.inj e)));have SZ3:=hid g3.size;have NG:Hid (∀k,k<V.heap.size->some k≠some w1):=hid (fun k hk e=>Nat.lt_irrefl _ (Nat.lt_of_lt_of_le (Option.some.inj e▸hk) (V1.out.size)));have B3:Hid (Below V V w3):=hid (V2.out.trans (below_grown g3 V2.out.size (fun j hj=>by cases hj;exact V1.out.size)));have X3:=hid (V2.out);obtain⟨g0,g1,g2,g3',g4,g5,g6⟩:=(A0' _ B3).seven;obtain⟨k0,k1,k2,k3,k4,k5,k6⟩:=(R0'.out.below B3).seven;have kf:=(R0'.out.below B3).jC;have N3:=hid n3;have G3:=hid g3;clear n3 g3)
    |(refine Gh (by rfl) _ _ (by rfl) w w2 (by rfl) (Ay.made w2 w (Nat.le_trans B0.out.size V2.out.size)) _ _ _ t.own.h (by rfl) (TO _ V2a) m3 (V2a.out.size |> Nat.le_trans B0.out.size) ?_;intro a3 c3 w3 n3 cp3 g3;have CAP:=hid cp3;clear cp3;have HB3:Hid (∀b m F,w2.rowIs b 78 m F->w3.heap[b]? =w2.heap[b]?):=hid (fun b m F hr=>(g3.block b (Nat.lt_of_lt_of_le hr.lt ((Below.refl _ w2).alloc (Nat.le_refl _) (.cells #[] 2)).size) (fun e=>Nat.ne_of_lt hr.lt (Option.some.inj e))).trans (blk_alloc_lt _ _ _ hr.lt));have SZ3:=hid (Nat.le_trans ((Below.refl _ w2).alloc (Nat.le_refl _) (.cells #[] 2)).size g3.size);have NG:Hid (∀k,k<V.heap.size->some k≠some w2):=hid (fun k hk e=>Nat.lt_irrefl _ (Nat.lt_of_lt_of_le (Option.some.inj e▸hk) (V2.out.size)));have B3:Hid (Below V V w3):=hid (V2a.out.trans (below_grown g3 V2a.out.size (fun j hj=>by cases hj;exact V2.out.size)));have X3:=hid (V2a.out);obtain⟨g0,g1,g2,g3',g4,g5,g6⟩:=(A0' _ B3).seven;obtain⟨k0,k1,k2,k3,k4,k5,k6⟩:=(R0'.out.below B3).seven;have kf:=(R0'.out.below B3).jC;have N3:=hid n3;have G3:=hid g3;clear n3 g3))
 all_goals(
  have Q1:=hid ((LN1.out.below H12).over SZ3 HB3);have Q2:=hid (LN2.out.over SZ3 HB3);have BB:=hid (Af B0 B3);have RR:=hid (R0'.out.below B3);clear LN1 LN2 H12 HB3 SZ3 G3 NG X3 V0 V0a EO0 PA PB TO A0';go_wp2;refine bodyPost_ret (PI _ _ (w.heap.size+1) (.int .i64 t.id) (.int .i64 t.b1) (.slice d1.a d1.n d1.k) (.int .i64 t.b2) (.slice d2.a d2.n d2.k) (.slice a3 t.own.n c3) (.int .i64 t.made) (Ag.all7 RR _ _ _ _ _ _ _) rfl) rfl ⟨⟨t.id,t.b1,d1,t.b2,d2,⟨a3,t.own.n,c3,t.own.h⟩,t.made⟩,rfl,⟨rfl,rfl,S1,rfl,S2,⟨rfl,rfl⟩,rfl⟩,⟨?_,?_,?_⟩,CAP,?_⟩
  ·refine Q1.out.of (by simp) (fun g hg hn'=>?_);have q2:=Q1.out.ne RR (by decide) g hg hn';iterate 7 rw[blk_setCell_other _ _ _ _ (by dsimp only;omega)]
  ·refine Q2.out.of (by simp) (fun g hg hn'=>?_);have q2:=Q2.out.ne RR (by decide) g hg hn';iterate 7 rw[blk_setCell_other _ _ _ _ (by dsimp only;omega)]
  ·refine N3.out.of (by simp) (fun g hg hn'=>?_);have q2:=N3.out.ne RR (by decide) g hg hn';iterate 7 rw[blk_setCell_other _ _ _ _ (by dsimp only;omega)]
  ·iterate 7 refine Below.setCell ?_ (by dsimp only;omega) _
   exact BB.out)
variable {w:World}{B n c:Nat}{a:Option Addr}
theorem VC(tmps:Array Value)(W:World)(P:Nat)(x0 x1 x2 x3 x4 x5 x6 x7 x8 x9:Value)(h:Ag W P (.cells #[x0,x1,x2,x3,x4,x5,x6,x7,x8,x9] 44))(h2:tmps[2]? =some (.pointer P)):
 (results Tryz.f99 tmps).run prog W= .ok (.agg #[x0,x1,x2,x3,x4,x5,x6,x7,x8,x9]) W:=by
 obtain⟨z0,z1,z2,z3,z4,z5,z6,z7,z8,z9⟩:=h.jE;simp[results,Tryz.results99,go_sem,h2,z0,z1,z2,z3,z4,z5,z6,z7,z8,z9]
theorem Pt{f:Nat->ByteArray}(h:w.ownsRow B 9 1 (.slice a n c) n ((List.range n).map (fun i=>Value.string (f i))))(hn:n<=1048576)(hz:∀i,i<n->(f i).size<=maxLen):AH.new B w ⟨a,n,c,f⟩:=by
 have hi:Jn w a n f:=fun h0=>by
  obtain⟨b,off,e,hlt,hcc⟩:=Bp.own h h0;exact⟨b,off,e,hlt,fun i hi=>hcc i _ (by simp[hi])⟩
 exact⟨⟨by unfold maxLen;simp only;omega,hi,hz⟩,fun h0=>Jg h h0⟩
theorem PX{f:Nat->Int}(h:w.ownsRow B 2 1 (.slice a n c) n (((List.range n).map f).map (Value.int .i64)))(hn:n<=1048576):AJ.new B w ⟨a,n,c,f⟩:=by
 have el:((List.range n).map f).length=n:=by simp
 have ho':Ay w B (.slice a ((List.range n).map f).length c) ((List.range n).map f):=by unfold Ay;rw[el];exact h
 have hi:Be w a n f:=fun h0=>by
  obtain⟨b,off,e,hlt,hcc⟩:=(Ay.lies ho').ints (by rw[el];exact h0);refine⟨b,off,e,hlt,fun i hi=>?_⟩;have:=hcc i (by rw[el];exact hi);rw[this];simp[AV,hi]
 exact⟨⟨by unfold maxLen;simp only;omega,hi⟩,fun h0=>by have:=Dl h h0;simpa using this⟩
theorem Lq(t:Ab)(w:World)(ht:t.at w)(hs:t.small):
 Calls prog 99 #[t.val] w fun e w'=>∃u:Ab,e= .returned u.val/\t.same u/\u.new w w'/\(u.jA.n<=u.jA.k/\u.jA.k<=maxLen)/\Below w w w':=by
 have b0:Below w w ((w.alloc t.blk).alloc Dp):=(Bf w _).alloc (by simp) _;have A0:=(Ag.new w t.blk).alloc Dp;have R0:Ag ((w.alloc t.blk).alloc Dp) (w.heap.size+1) Dp:=by
  have:=Ag.new (w.alloc t.blk) Dp;simpa using this
 have HT:=hid ht;obtain⟨m1,m2,m3,m4,m5⟩:=hs;have ne1:¬w.heap.size+1=w.heap.size:=by omega
 have ne2:¬w.heap.size=w.heap.size+1:=by omega
 have PA:Hid (∀W,Below w w W->Calls prog 104 #[.agg #[t.b1,t.c1.val]] W fun e w'=>∃d:Ar,e= .returned (.agg #[t.b1,d])/\t.c1.same d/\d.new W w'/\Below W W w'):=hid (fun W hW=>Cu t.b1 t.c1 W (HT.out.below hW).1 m1);have PB:Hid (∀W,Below w w W->Calls prog 104 #[.agg #[t.b2,t.c2.val]] W fun e w'=>∃d:Ar,e= .returned (.agg #[t.b2,d])/\t.c2.same d/\d.new W w'/\Below W W w'):=hid (fun W hW=>Cu t.b2 t.c2 W (HT.out.below hW).2.2.2.1 m5);have LS:Hid (∀W,Below w w W->Bp W t.jA.a t.jA.n ((List.range t.jA.n).map (fun i=>Value.string (t.jA.f i)))):=hid (fun W hW=>JB (HT.out.below hW).2.1.2.1);have LI:Hid (∀W,Below w w W->Bp W t.own.a t.own.n (((List.range t.own.n).map t.own.h).map (Value.int .i64))):=hid (fun W hW=>by
  have L0:=(HT.out.below hW).2.2.1.2.intL;have el:((List.range t.own.n).map t.own.h).length=t.own.n:=by simp
  unfold DD at L0;rw[el]at L0;exact L0)
 have ZI:=hid (HT.out.2.1.2.2);unfold Ab.blk Dp at b0 A0 R0;unfold Ab.val;unfold Ar.val AJ.val AH.val at *;clear ht;obtain⟨x0,x1,x2,x3,x4,x5,x6,x7,x8,x9⟩:=A0.jE;have C1:=hid (PA.out _ b0);go_enter func99,ntmps99
 go_wp2_with fail
 refine C1.out.mono ?_;rintro e w1 ⟨d1,rfl,s1,n1,h1⟩;have S1:=hid s1;have A1:=A0.below h1;have R1:=R0.below h1;have B1:=Af b0 h1;have L1:=b0.size;have N1:=hid (n1.low L1);have af:=A1.jC;have A1':Ag ((w1.setCell ⟨w,3,none⟩ (.int .i64 t.b1)).setCell ⟨w,4,none⟩ (.slice d1.a d1.n d1.k)) w (.cells #[t.id,t.kind,t.up,t.b1,d1,.string t.data,t.jA,t.own,t.b2,t.c2] 44):=(A1.jB (i:=3) (.int .i64 t.b1)).jB (i:=4) (.slice d1.a d1.n d1.k);have n7:No (.cells #[.int .i64 0,.int .i64 0,.int .i64 0,.int .i64 0,.slice none 0 0,.string (ByteArray.mk #[]),.slice none 0 0,.slice none 0 0,.int .i64 0,.slice none 0 0] 44):=⟨⟩;have n3:No n7:=⟨⟩;have R1':Ag ((w1.setCell ⟨w,3,none⟩ (.int .i64 t.b1)).setCell ⟨w,4,none⟩ (.slice d1.a d1.n d1.k)) (w.heap.size+1) n3:=(R1.other (by omega) _).other (by omega) _;have B1':Below w w ((w1.setCell ⟨w,3,none⟩ (.int .i64 t.b1)).setCell ⟨w,4,none⟩ (.slice d1.a d1.n d1.k)):=(B1.setCell nr _).setCell nr _;have N1':Hid (d1.new w ((w1.setCell ⟨w,3,none⟩ (.int .i64 t.b1)).setCell ⟨w,4,none⟩ (.slice d1.a d1.n d1.k))):=hid (N1.out.of (by simp) (fun g hg hn'=>by
  have q1:=N1.out.ne A1 (by decide) g hg hn';iterate 2 rw[blk_setCell_other _ _ _ _ (by dsimp only;omega)]))
 obtain⟨y0,y1,y2,y3,y4,y5,y6,y7,y8,y9⟩:=A1.jE;obtain⟨z0,z1,z2,z3,z4,z5,z6,z7,z8,z9⟩:=A1'.jE;have C2:=hid (PB.out _ B1');clear x0 x1 x2 x3 x4 x5 x6 x7 x8 x9 C1 s1 n1 h1 N1 A0 R0 b0 R1 B1;go_wp2_with fail
 refine C2.out.mono ?_;rintro e w2 ⟨d2,rfl,s2,n2,h2⟩;have S2:=hid s2;have A2:=A1'.below h2;have R2:=R1'.below h2;have B2:=Af B1' h2;have N1:=hid (N1'.out.below h2);have N2:=hid (n2.low B1'.size);have af2:=A2.jC;have n4:No (.cells #[t.id,t.kind,t.up,t.b1,d1,.string t.data,t.jA,t.own,t.b2,d2] 44):=⟨⟩;have A2':Ag ((w2.setCell ⟨w,8,none⟩ (.int .i64 t.b2)).setCell ⟨w,9,none⟩ (.slice d2.a d2.n d2.k)) w n4:=(A2.jB (i:=8) (.int .i64 t.b2)).jB (i:=9) (.slice d2.a d2.n d2.k);have R2':Ag ((w2.setCell ⟨w,8,none⟩ (.int .i64 t.b2)).setCell ⟨w,9,none⟩ (.slice d2.a d2.n d2.k)) (w.heap.size+1) n3:=(R2.other (by omega) _).other (by omega) _;have B2':Below w w ((w2.setCell ⟨w,8,none⟩ (.int .i64 t.b2)).setCell ⟨w,9,none⟩ (.slice d2.a d2.n d2.k)):=(B2.setCell nr _).setCell nr _;have M1:Hid (d1.new w ((w2.setCell ⟨w,8,none⟩ (.int .i64 t.b2)).setCell ⟨w,9,none⟩ (.slice d2.a d2.n d2.k))):=hid (N1.out.of (by simp) (fun g hg hn'=>by
  have q1:=N1.out.ne A2 (by decide) g hg hn';iterate 2 rw[blk_setCell_other _ _ _ _ (by dsimp only;omega)]))
 have M2:Hid (d2.new w ((w2.setCell ⟨w,8,none⟩ (.int .i64 t.b2)).setCell ⟨w,9,none⟩ (.slice d2.a d2.n d2.k))):=hid (N2.out.of (by simp) (fun g hg hn'=>by
  have q1:=N2.out.ne A2 (by decide) g hg hn';iterate 2 rw[blk_setCell_other _ _ _ _ (by dsimp only;omega)]))
 clear y0 y1 y2 y3 y4 y5 y6 y7 y8 y9 z0 z1 z2 z3 z4 z5 z6 z7 z8 z9 C2 s2 n2 h2 N1 N2 N1' A1 A1' R1' B1' R2 B2 af L1;obtain⟨y0,y1,y2,y3,y4,y5,y6,y7,y8,y9⟩:=A2.jE;have n5:Nw (((w2.setCell ⟨w,8,none⟩ (.int .i64 t.b2)).setCell ⟨w,9,none⟩ (.slice d2.a d2.n d2.k)).alloc (.cells #[] 9)):=⟨⟩;have b3:Below ((w2.setCell ⟨w,8,none⟩ (.int .i64 t.b2)).setCell ⟨w,9,none⟩ (.slice d2.a d2.n d2.k)).heap.size ((w2.setCell ⟨w,8,none⟩ (.int .i64 t.b2)).setCell ⟨w,9,none⟩ (.slice d2.a d2.n d2.k)) n5:=Bf _ _;have e2:((w2.setCell ⟨w,8,none⟩ (.int .i64 t.b2)).setCell ⟨w,9,none⟩ (.slice d2.a d2.n d2.k)).heap.size=w2.heap.size:=by simp
 have n6:Nv (.slice (w2) 0 0):=⟨⟩;have OM:Hid ((n5:World).ownsRow w 9 1 n6 0 []):=hid (by
  have:=World.ownsRow_made (e:=9) (size:=1) ((w2.setCell ⟨w,8,none⟩ (.int .i64 t.b2)).setCell ⟨w,9,none⟩ (.slice d2.a d2.n d2.k)) #[] 0 B2'.size (Nat.zero_le _) rfl;rw[e2]at this;exact this)
 have LM:=hid (LS.out _ (Af B2' b3));have SZ:=(Af B2' b3).size;have P2:w.heap.size+1<w2.heap.size:=by have:=R2'.lt;rw[e2]at this;exact this
 obtain⟨z0,z1,z2,z3,z4,z5,z6,z7,z8,z9⟩:=(A2'.below b3).jE;have F3:Hid (∀(a3:Option Addr) (c3:Nat) (w3:World),w3.ownsRow w 9 1 (.slice a3 t.jA.n c3) t.jA.n ((List.range t.jA.n).map (fun i=>Value.string (t.jA.f i)))->(n5:World).grownBy w3 (some w2)->Ag w3 w n4/\Ag w3 (w.heap.size+1) n3/\Below w w w3/\d1.new w w3/\d2.new w w3/\AH.new w w3 ⟨a3,t.jA.n,c3,t.jA.f⟩):=hid (fun a3 c3 w3 o3 g3=>by
  have rn:∀c:Ar,c.new w ((w2.setCell ⟨w,8,none⟩ (.int .i64 t.b2)).setCell ⟨w,9,none⟩ (.slice d2.a d2.n d2.k))->c.new w w3:=fun c hc=>(hc.below b3).of g3.size (fun b hb hn=>g3.block b (by obtain⟨b',_,_,e',_,_,hr⟩:=(hc.below b3).2 hn;rw[hb]at e';cases e';exact hr.lt) (fun e=>by
   obtain⟨b',_,_,e',_,_,hr⟩:=hc.2 hn;rw[hb]at e';cases e';have h1:=hr.lt;have h2:=Option.some.inj e;rw[e2]at h1;omega))
  refine⟨(A2'.below b3).grown g3 (by simp;omega),(R2'.below b3).grown g3 (by simp;omega),(Af B2' b3).trans (below_grown g3 SZ (fun j hj=>by cases hj;omega)),rn d1 M1,rn d2 M2,Pt o3 m3.1 ZI⟩)
 have AR3:Hid (∀(a3:Option Addr) (c3:Nat) (w3:World),Ag w3 w n4->Ag w3 (w.heap.size+1) n3->Below w w w3->d1.new w w3->d2.new w w3->AH.new w w3 ⟨a3,t.jA.n,c3,t.jA.f⟩->
  Ag (w3.setCell ⟨w,6,none⟩ (.slice a3 t.jA.n c3)) w (.cells #[t.id,t.kind,t.up,t.b1,d1,.string t.data,.slice a3 t.jA.n c3,t.own,t.b2,d2] 44)/\Ag (w3.setCell ⟨w,6,none⟩ (.slice a3 t.jA.n c3)) (w.heap.size+1) n3/\Below w w (w3.setCell ⟨w,6,none⟩ (.slice a3 t.jA.n c3))/\d1.new w (w3.setCell ⟨w,6,none⟩ (.slice a3 t.jA.n c3))/\d2.new w (w3.setCell ⟨w,6,none⟩ (.slice a3 t.jA.n c3))/\AH.new w (w3.setCell ⟨w,6,none⟩ (.slice a3 t.jA.n c3)) ⟨a3,t.jA.n,c3,t.jA.f⟩):=hid (fun a3 c3 w3 A R B k1 k2 k4=>
  ⟨A.jB (i:=6) _,R.other (by omega) _,B.setCell nr _,k1.of (by simp) (fun g hg hn'=>by have q1:=k1.ne A (by decide) g hg hn';rw[blk_setCell_other _ _ _ _ (by dsimp only;omega)]),k2.of (by simp) (fun g hg hn'=>by have q1:=k2.ne A (by decide) g hg hn';rw[blk_setCell_other _ _ _ _ (by dsimp only;omega)]),k4.of (by simp) (fun g hg hn'=>by have q1:=k4.ne A (by decide) g hg hn';rw[blk_setCell_other _ _ _ _ (by dsimp only;omega)])⟩)
 have O3:Hid (∀(a3:Option Addr) (c3:Nat) (w3:World),Below w w (w3.setCell ⟨w,6,none⟩ (.slice a3 t.jA.n c3))->((w3.setCell ⟨w,6,none⟩ (.slice a3 t.jA.n c3)).alloc (.cells #[] 2)).ownsRow w 2 1 (.slice (w3) 0 0) 0 []):=hid (fun a3 c3 w3 B=>by
  have:=World.ownsRow_made (e:=2) (size:=1) (w3.setCell ⟨w,6,none⟩ (.slice a3 t.jA.n c3)) #[] 0 B.size (Nat.zero_le _) rfl;have e3:(w3.setCell ⟨w,6,none⟩ (.slice a3 t.jA.n c3)).heap.size=w3.heap.size:=by simp
  rw[e3]at this;exact this)
 have F4:Hid (∀(a3:Option Addr) (c3:Nat) (w3:World) (a4:Option Addr) (c4:Nat) (w4:World),Ag (w3.setCell ⟨w,6,none⟩ (.slice a3 t.jA.n c3)) w (.cells #[t.id,t.kind,t.up,t.b1,d1,.string t.data,.slice a3 t.jA.n c3,t.own,t.b2,d2] 44)->Ag (w3.setCell ⟨w,6,none⟩ (.slice a3 t.jA.n c3)) (w.heap.size+1) n3->Below w w (w3.setCell ⟨w,6,none⟩ (.slice a3 t.jA.n c3))->d1.new w (w3.setCell ⟨w,6,none⟩ (.slice a3 t.jA.n c3))->d2.new w (w3.setCell ⟨w,6,none⟩ (.slice a3 t.jA.n c3))->AH.new w (w3.setCell ⟨w,6,none⟩ (.slice a3 t.jA.n c3)) ⟨a3,t.jA.n,c3,t.jA.f⟩->w4.ownsRow w 2 1 (.slice a4 t.own.n c4) t.own.n (((List.range t.own.n).map t.own.h).map (Value.int .i64))->((w3.setCell ⟨w,6,none⟩ (.slice a3 t.jA.n c3)).alloc (.cells #[] 2)).grownBy w4 (some w3)->
  Ag w4 w (.cells #[t.id,t.kind,t.up,t.b1,d1,.string t.data,.slice a3 t.jA.n c3,t.own,t.b2,d2] 44)/\Ag w4 (w.heap.size+1) n3/\Below w w w4/\d1.new w w4/\d2.new w w4/\AH.new w w4 ⟨a3,t.jA.n,c3,t.jA.f⟩/\AJ.new w w4 ⟨a4,t.own.n,c4,t.own.h⟩):=hid (fun a3 c3 w3 a4 c4 w4 A R B k1 k2 k4 o4 g4=>by
  have e3:(w3.setCell ⟨w,6,none⟩ (.slice a3 t.jA.n c3)).heap.size=w3.heap.size:=by simp
  have b4:Below (w3.setCell ⟨w,6,none⟩ (.slice a3 t.jA.n c3)).heap.size (w3.setCell ⟨w,6,none⟩ (.slice a3 t.jA.n c3)) ((w3.setCell ⟨w,6,none⟩ (.slice a3 t.jA.n c3)).alloc (.cells #[] 2)):=Bf _ _;have l1:=A.lt;have l2:=R.lt;rw[e3]at l1 l2;have rn:∀c:Ar,c.new w (w3.setCell ⟨w,6,none⟩ (.slice a3 t.jA.n c3))->c.new w w4:=fun c hc=>(hc.below b4).of g4.size (fun b hb hn=>g4.block b (by obtain⟨b',_,_,e',_,_,hr⟩:=(hc.below b4).2 hn;rw[hb]at e';cases e';exact hr.lt) (fun e=>by
   obtain⟨b',_,_,e',_,_,hr⟩:=hc.2 hn;rw[hb]at e';cases e';have h1:=hr.lt;have h2:=Option.some.inj e;rw[e3]at h1;omega))
  refine⟨(A.below b4).grown g4 (by simp;omega),(R.below b4).grown g4 (by simp;omega),(Af B b4).trans (below_grown g4 (Af B b4).size (fun j hj=>by cases hj;omega)),rn d1 k1,rn d2 k2,(k4.below b4).of g4.size (fun b hb hn=>g4.block b (by obtain⟨b',_,_,e',_,_,hr⟩:=(k4.below b4).2 hn;rw[hb]at e';cases e';exact hr.lt) (fun e=>by
   obtain⟨b',_,_,e',_,_,hr⟩:=k4.2 hn;rw[hb]at e';cases e';have h1:=hr.lt;have h2:=Option.some.inj e;rw[e3]at h1;omega)),PX o4 m4⟩)
 have mk1:True:=trivial;have bb4:Hid (∀W:World,Below W W (W.alloc (.cells #[] 2))):=hid (fun W=>Bf _ _);have ln1:t.jA.n<=1048576:=m3.1;clear A2' R2' B2' M1 M2 b3 A2;go_wp2_with(first
  |(have mq:=mk1;clear mk1;refine Bs underlying42 Tryz.info9 rfl (by omega) _ rfl _ _ rfl w n6 0 [] rfl OM t.jA.a t.jA.n t.jA.k ((List.range t.jA.n).map (fun i=>Value.string (t.jA.f i))) rfl (by simp) LM (fun u hu=>by obtain⟨y,_,rfl⟩:=List.mem_map.1 hu;rfl) (by omega) (by omega) SZ ?_;intro a3 c3 w3 o3 g3;rw[Nat.zero_add,List.nil_append]at o3;rw[Nat.zero_add];have CAP:=hid (CZ o3);obtain⟨A3,R3,B3,K1,K2,K4⟩:=F3.out a3 c3 w3 o3 g3;obtain⟨A3',R3',B3',K1',K2',K4'⟩:=AR3.out a3 c3 w3 A3 R3 B3 K1 K2 K4;have HA3:=hid A3';have HR3:=hid R3';have HB3:=hid B3';have HK1:=hid K1';have HK2:=hid K2';have HK4:=hid K4';have OM2:=hid (O3.out a3 c3 w3 B3');have LM2:=hid (LI.out _ (Af B3' (bb4 _)));have SZ2:=hid (Af B3' (bb4 _)).size;obtain⟨p0,p1,p2,p3,p4,p5,p6,p7,p8,p9⟩:=A3.jE;have pf:=A3.jC;obtain⟨q0,q1,q2,q3,q4,q5,q6,q7,q8,q9⟩:=(A3'.below (bb4 _)).jE;clear o3 g3 A3 R3 B3 K1 K2 K4 A3' R3' B3' K1' K2' K4' F3 AR3 O3 OM LM)
  |(refine Bs underlying37 Tryz.info2 rfl (by omega) _ rfl _ _ rfl w (.slice (some ⟨w3,0,none⟩) 0 0) 0 [] rfl OM2 t.own.a t.own.n t.own.k (((List.range t.own.n).map t.own.h).map (Value.int .i64)) rfl (by simp) LM2 (fun u hu=>by obtain⟨y,_,rfl⟩:=List.mem_map.1 hu;rfl) (by omega) (by omega) SZ2 ?_;intro a4 c4 w4 o4 g4;rw[Nat.zero_add,List.nil_append]at o4;rw[Nat.zero_add];obtain⟨A4,R4,B4,K1,K2,K4,K3⟩:=F4.out a3 c3 w3 a4 c4 w4 HA3 HR3 HB3 HK1 HK2 HK4 o4 g4;have HA4:=hid A4;have HR4:=hid R4;have HB4:=hid B4;have J1:=hid K1;have J2:=hid K2;have J3:=hid K3;have J4:=hid K4;obtain⟨u0,u1,u2,u3,u4,u5,u6,u7,u8,u9⟩:=A4.jE;have uf:=A4.jC;have A4':Ag (w4.setCell ⟨w,7,none⟩ (.slice a4 t.own.n c4)) w (.cells #[t.id,t.kind,t.up,t.b1,d1,.string t.data,.slice a3 t.jA.n c3,.slice a4 t.own.n c4,t.b2,d2] 44):=A4.jB (i:=7) _;have R4':Ag (w4.setCell ⟨w,7,none⟩ (.slice a4 t.own.n c4)) (w.heap.size+1) n7:=R4.other (by omega) _;have HR4':=hid R4';obtain⟨v0,v1,v2,v3,v4,v5,v6,v7,v8,v9⟩:=A4'.jE;obtain⟨r0,r1,r2,r3,r4,r5,r6,r7,r8,r9⟩:=R4'.jE;have rf:=R4'.jC;clear o4 g4 A4 R4 B4 K1 K2 K3 K4 A4' R4'))
 refine bodyPost_ret (VC _ _ (w.heap.size+1) (.int .i64 t.id) (.int .i64 t.kind) (.int .i64 t.up) (.int .i64 t.b1) (.slice d1.a d1.n d1.k) (.string t.data) (.slice a3 t.jA.n c3) (.slice a4 t.own.n c4) (.int .i64 t.b2) (.slice d2.a d2.n d2.k) (Ag.all10 HR4' _ _ _ _ _ _ _ _ _ _) rfl) rfl ⟨⟨t.id,t.kind,t.up,t.b1,d1,t.data,⟨a3,t.jA.n,c3,t.jA.f⟩,⟨a4,t.own.n,c4,t.own.h⟩,t.b2,d2⟩,rfl,⟨rfl,rfl,rfl,rfl,S1,rfl,⟨rfl,rfl⟩,⟨rfl,rfl⟩,rfl,S2⟩,⟨?_,?_,?_,?_⟩,CAP,?_⟩
 ·refine J1.out.of (by simp) (fun g hg hn'=>?_);have q1:=J1.out.ne HA4 (by decide) g hg hn';have q2:=J1.out.ne HR4 (by decide) g hg hn';iterate 11 rw[blk_setCell_other _ _ _ _ (by dsimp only;omega)]
 ·refine J4.out.of (by simp) (fun g hg hn'=>?_);have q1:=J4.out.ne HA4 (by decide) g hg hn';have q2:=J4.out.ne HR4 (by decide) g hg hn';iterate 11 rw[blk_setCell_other _ _ _ _ (by dsimp only;omega)]
 ·refine J3.out.of (by simp) (fun g hg hn'=>?_);have q1:=J3.out.ne HA4 (by decide) g hg hn';have q2:=J3.out.ne HR4 (by decide) g hg hn';iterate 11 rw[blk_setCell_other _ _ _ _ (by dsimp only;omega)]
 ·refine J2.out.of (by simp) (fun g hg hn'=>?_);have q1:=J2.out.ne HA4 (by decide) g hg hn';have q2:=J2.out.ne HR4 (by decide) g hg hn';iterate 11 rw[blk_setCell_other _ _ _ _ (by dsimp only;omega)]
 ·iterate 11 refine Below.setCell ?_ (by dsimp only;omega) _
  exact HB4.out
end Go.Proofs.YteoihknaljgocaaGreatDoor
