import Derived.Test.YtblapfnglojgjaaGreatDoorZ12k
set_option maxRecDepth 100000
set_option maxHeartbeats 16000000
namespace Go.Proofs.YtblapfnglojgjaaGreatDoor
open Go Go.RowKit Go.Deep Go.Maps Go.Proofs.Tryz
theorem AQ.one(w:World)(B:Nat)(hb:B<=w.heap.size)(x:Int):AQ (w.alloc (.cells #[.int .i64 x] 2)) B (.slice (w) 1 1) [x]:=
 ⟨rfl,.inr ⟨w,1,#[.int .i64 x],rfl,hb,blk_alloc_new _ _,Nat.le_refl _,by unfold maxLen;omega,rfl,rfl⟩⟩
theorem AQ.some_{w:World}{B n c:Nat}{a:Option Addr}{l:List Int}(h:AQ w B (.slice a n c) l)(hl:0<l.length):∃g,a=some ⟨g,0,none⟩/\l.length<=c/\c<=maxLen:=by
 rcases h.2 with⟨hv,hn⟩|⟨g,cap,cur,hv,_,_,h1,h2,_⟩
 ·omega
 ·simp only[Value.slice.injEq]at hv;obtain⟨rfl,_,rfl⟩:=hv;exact⟨g,rfl,h1,h2⟩
theorem Uh(k:AJ)(u:Nat)(w:World)(hk:k.at w)(ho:BU k.on k.O=true)(hu:u<k.on)(hc:Iq (fun i=>(k.O i).id) (fun i=>(k.O i).up) k.on u):
 Calls prog 114 #[k.val,.int .i64 (k.O u).id] w fun e w'=>∃v,e= .returned v/\AQ w' w v (FL ((Gd (fun i=>(k.O i).id) (fun i=>(k.O i).up) k.on k.on u).map (fun i=>(k.O i).id)))/\Below w w w':=by
 obtain⟨on1,on2,_,_⟩:=BJ ho;have hr:=Cq ho;have h0:∀j,j<k.on->(fun i=>(k.O i).id) j≠(fun i=>(k.O i).up) 0:=fun j hj=>by have:=Eo ho j hj;have:=(Cu ho).2.2;dsimp only;omega
 have n1:No (.cells #[.slice k.ta k.tn k.tk,.slice k.oa k.on k.ok] 27):=⟨⟩;have hb0:Below w w (w.alloc n1):=CY w _;have A0:=Ai.new w n1;have n3:No (.cells #[.int .i64 (k.O u).id] 2):=⟨⟩;have bm:=hb0.alloc hb0.size n3;have A1:=A0.alloc n3;have O1:=AQ.one (w.alloc n1) (w.heap.size+1) (by simp) (k.O u).id;have HT:=hid hk;have HR:=hid hr;have H0:=hid h0;have HC:=hid hc;have BS:Hid (Wt (fun i=>(k.O i).id) (fun i=>(k.O i).up) k.on u 0 [u]):=hid (Wt.start hu);unfold AJ.val;clear hk ho hr h0 hc;go_enter func114,ntmps114
 go_wp2;generalize hW:((w.alloc n1).alloc n3)=W at *;have O2:AQ W (w.heap.size+1) (.slice (some ⟨w.heap.size+1,0,none⟩) 1 1) ([u].map (fun i=>(k.O i).id)):=by simpa using O1
 clear hW hb0 A0 O1;go_loopw [5,6] (fun v i wr=>∃(t:Nat) (Q:List Nat),t<=Q.length/\Q.length<=271/\i= .int .i64 t/\Hid (Wt (fun i=>(k.O i).id) (fun i=>(k.O i).up) k.on u t Q)/\Hid (AQ wr (w.heap.size+1) v (Q.map (fun i=>(k.O i).id)))/\Ai wr w n1/\Below w w wr) (fun _ i _=>271-(intOf i).toNat)
 case atStart=>exact⟨0,[u],Nat.zero_le _,by simp,rfl,BS,hid O2,A1,bm⟩
 case round=>
  clear O2 A1 bm BS;obtain⟨t,Q,ht,hq,rfl,HB,HO,A,hB⟩:=hrel;obtain⟨sa,sc,es⟩:=Cp HO.out;subst es;have ql:(Q.map (fun i=>(k.O i).id)).length=Q.length:=by simp
  have QL:=hid ql;rw[ql]at HO;rw[ql];clear ql;by_cases hlt:t<Q.length
  ·obtain⟨a,ea⟩:∃a,Q[t]? =some a:=⟨Q[t],by simp[hlt]⟩;have HA:=hid ea;have hl0:0<(Q.map (fun i=>(k.O i).id)).length:=(by rw[QL.out];omega);have lies:=AQ.lies (a:=sa) (c:=sc) (l:=Q.map (fun i=>(k.O i).id)) (by rw[QL.out];exact HO.out);obtain⟨sb,so,rfl,slt,scc⟩:=lies hl0;have g1:wr.cell? ⟨sb,so+t,none⟩=some (.int .i64 (k.O a).id):=scc t _ (by simp[ea]);have i0:(0:Int)<=(t:Int):=(by omega);have i1:(t:Int)<(Q.length:Int):=(by omega);obtain⟨x0,x1⟩:=A.two;have CK:=hid (OV k (k.O a).id wr.drew (HT.out.below hB.drew) on2);rw[YT,Jo]at CK;unfold AJ.val at CK;have n4:No (.cells #[.slice k.ta k.tn k.tk,.slice k.oa k.on k.ok] 27):=⟨⟩;have Ad:Ai wr.drew w n4:=A;have kl:(Dv (fun i=>(k.O i).id) (fun i=>(k.O i).up) k.on a).length<=271:=by
    have:=Lm (fun i=>(k.O i).id) (fun i=>(k.O i).up) k.on a;rw[Jo,List.length_map]at this;omega
   clear ea lies scc hl0;go_wp2_with fail
   go_region_held3(fun w'=>w'.cell? ⟨w,0,none⟩=some (.slice k.ta k.tn k.tk)/\w'.cell? ⟨w,1,none⟩=some (.slice k.oa k.on k.ok)/\w'.cell? ⟨sb,so+t,none⟩=some (.int .i64 (k.O a).id)) (first|go_keep|(simp only[*,and_self]))
    (first
      |(go_at_call 117;refine CK.out.mono ?_;rintro e w2 ⟨kv,rfl,o2,hb2⟩;have K2:=hid o2;clear o2;obtain⟨p0,p1⟩:=(Ad.below hb2).two;have p2:=(hb2.cell (p:=⟨sb,so+t,none⟩) slt).trans g1))
   have B2:Below w w w2:=Ac hB.drew hb2;have hs1:w.heap.size+1<=wr.drew.heap.size:=A.lt;have A2:=Ad.below hb2;have S2:=hid (AQ.below (w:=wr.drew) HO.out hb2);have KA:Hid (∀g,kv.ownBlock=some g->some g≠some sb):=hid (fun g hg e=>by
    have h1:=(World.ownsRow.lt K2.out g hg).1;have h2:wr.drew.heap.size=wr.heap.size:=rfl;have h3:=Option.some.inj e;omega)
   obtain⟨ka,kc,ek⟩:=Cp K2.out;subst ek;have NX:Hid (Wt (fun i=>(k.O i).id) (fun i=>(k.O i).up) k.on u (t+1) (Q++Dv (fun i=>(k.O i).id) (fun i=>(k.O i).up) k.on a)):=hid (HB.out.step HR.out H0.out HC.out HA.out);have ml:((Dv (fun i=>(k.O i).id) (fun i=>(k.O i).up) k.on a).map (fun i=>(k.O i).id)).length<=271:=(by rw[List.length_map];exact kl);have EQ:Hid ((Q.map (fun i=>(k.O i).id))++((Dv (fun i=>(k.O i).id) (fun i=>(k.O i).up) k.on a).map (fun i=>(k.O i).id))=(Q++Dv (fun i=>(k.O i).id) (fun i=>(k.O i).up) k.on a).map (fun i=>(k.O i).id)):=hid (by rw[List.map_append]);have LQ:Hid ((Q++Dv (fun i=>(k.O i).id) (fun i=>(k.O i).up) k.on a).length<=271):=hid (Nat.le_trans NX.out.len on2);generalize hKd:(Dv (fun i=>(k.O i).id) (fun i=>(k.O i).up) k.on a).map (fun i=>(k.O i).id)=Kd at *;clear hKd kl;have QL2:Hid ((Q.map (fun i=>(k.O i).id)).length=Q.length):=QL;have V0:Hid (AQ w2 (w.heap.size+1) (.slice (some ⟨sb,so,none⟩) Q.length sc) (Q.map (fun i=>(k.O i).id))):=S2;generalize hSd:Q.map (fun i=>(k.O i).id)=Sd at *;have SL:Sd.length<=271:=(by rw[QL2.out];exact hq);clear hSd p0 p1 p2 g1 x0 x1 CK Ad A hB HO hb2 S2 HB;go_wp2;go_loopw [5,8] (fun v i wr=>∃j:Nat,j<=Kd.length/\i= .int .i64 j/\Hid (AQ wr (w.heap.size+1) v (Sd++Kd.take j))/\Hid (AQ wr (w.heap.size+1) (.slice ka Kd.length kc) Kd)/\Hid (∀g,(Value.slice ka Kd.length kc).ownBlock=some g->some g≠v.ownBlock)/\Ai wr w n4/\Below w w wr) (fun _ i _=>Kd.length-(intOf i).toNat)
   case atStart=>exact⟨0,Nat.zero_le _,rfl,hid (by rw[List.take_zero,List.append_nil];exact V0.out),hid (K2.out.low hs1),KA,A2,B2⟩
   case round=>
    clear K2 KA A2 B2 V0;obtain⟨j,hj,rfl,HS,HKd,HAP,A,hB⟩:=hrel;by_cases hlt2:j<Kd.length
    ·obtain⟨y,ey⟩:∃y,Kd[j]? =some y:=⟨Kd[j],by simp[hlt2]⟩;obtain⟨kb,ko,rfl,_,kcc⟩:=AQ.lies HKd.out (by omega);have g1:wr.cell? ⟨kb,ko+j,none⟩=some (.int .i64 y):=kcc j _ (by simp[ey]);have i2:(j:Int)<(Kd.length:Int):=(by omega);have L1:=hid (D9.one (w:=wr) y);have n2:No (.cells #[.int .i64 y] 2):=⟨⟩;have OA:=hid (AQ.alloc HS.out n2);have KA2:=hid (AQ.alloc HKd.out n2);have AA:=A.alloc n2;have B1:Below w w (wr.alloc n2):=hB.alloc hB.size _;have s1:w.heap.size+1<=(wr.alloc n2).heap.size:=(by have:=A.lt;simp;omega);have lm:(Sd++Kd.take j).length+1<=4194304:=(by rw[List.length_append,List.length_take];omega);have ET:Hid (Sd++Kd.take j++[y]=Sd++Kd.take (j+1)):=hid (by rw[List.take_add_one,ey,List.append_assoc];rfl);have LE:Hid ((Sd++Kd.take (j+1)).length=Sd.length+(j+1)):=hid (by rw[List.length_append,List.length_take];omega);have FIN:Hid (∀(w3:World) (v3:Value),(wr.alloc n2).grownBy w3 u5.ownBlock->(v3.ownBlock=u5.ownBlock∨v3.ownBlock=some (wr.alloc n2).heap.size)->Ai w3 w (.cells #[.slice k.ta k.tn k.tk,.slice k.oa k.on k.ok] 27)/\Below w w w3/\AQ w3 (w.heap.size+1) (.slice (some ⟨kb,ko,none⟩) Kd.length kc) Kd/\∀g,(Value.slice (some ⟨kb,ko,none⟩) Kd.length kc).ownBlock=some g->some g≠v3.ownBlock):=hid (fun w3 v3 g3 h3=>by
      refine⟨AA.grown g3 (fun e=>by have:=(World.ownsRow.lt OA.out _ e.symm).1;omega),B1.trans (below_grown g3 B1.size (fun j hj=>by have:=(World.ownsRow.lt OA.out j hj).1;omega)),KA2.out.of_block (fun g hg=>g3.block g (World.ownsRow.lt KA2.out g hg).2 (HAP.out g hg)),fun g hg=>?_⟩;rcases h3 with h3|h3
      ·rw[h3];exact HAP.out g hg
      ·rw[h3];have:=(World.ownsRow.lt KA2.out g hg).2;simp only[ne_eq,Option.some.injEq];omega)
     clear kcc ey HS HKd;go_wp2_with(refine DX _ rfl _ _ rfl (w.heap.size+1) u5 (Sd++Kd.take j) rfl OA.out _ 1 1 [y] rfl rfl L1.out lm s1 ?_;intro a3 c3 w3 o3 g3 v3)
     rw[ET.out,LE.out]at o3 v3;obtain⟨f1,f2,f3,f4⟩:=FIN.out w3 _ g3 v3;exact⟨⟨j+1,by omega,by go_num,hid o3,hid f3,hid f4,f1,f2⟩,by simp[intOf];omega⟩
    ·have i2:¬(j:Int)<(Kd.length:Int):=(by omega);have e:j=Kd.length:=(by omega);have HS2:Hid (AQ wr (w.heap.size+1) u5 ((Q++Dv (fun i=>(k.O i).id) (fun i=>(k.O i).up) k.on a).map (fun i=>(k.O i).id))):=hid (by
      have:=HS.out;rw[e,List.take_length,EQ.out]at this;exact this)
     clear HS e HKd HAP;go_wp2;exact⟨⟨t+1,_,by rw[List.length_append];omega,LQ.out,by go_num,NX,HS2,A,hB⟩,by simp[intOf];omega⟩
  ·have e:t=Q.length:=(by omega);have i1:¬(t:Int)<(Q.length:Int):=(by omega);have PUT:Hid (DT (Q.map (fun i=>(k.O i).id))=FL ((Gd (fun i=>(k.O i).id) (fun i=>(k.O i).up) k.on k.on u).map (fun i=>(k.O i).id))):=hid (am HR.out H0.out hu HC.out (by rw[<-e];exact HB.out));clear HB e;have ZL:Hid ((Q.map (fun i=>(k.O i).id)).length<=271):=hid (by rw[QL.out];exact hq);have OS:Hid (AQ wr (w.heap.size+1) (.slice sa (Q.map (fun i=>(k.O i).id)).length sc) (Q.map (fun i=>(k.O i).id))):=hid (by rw[QL.out];exact HO.out);have QL2:Hid ((Q.map (fun i=>(k.O i).id)).length=Q.length):=QL;clear HO QL;generalize hSd:Q.map (fun i=>(k.O i).id)=Sd at *;clear hSd;rw[<-QL2.out]at i1;rw[<-QL2.out];have tl:Sd.length<=271:=ZL.out;have OM:=hid (AQ.made wr (w.heap.size+1) (by have:=A.lt;omega));have B1:Below w w (wr.alloc (.cells #[] 2)):=hB.alloc hB.size _;have OS1:=hid (AQ.alloc OS.out (.cells #[] 2));go_wp2;generalize hWx:wr.alloc (.cells #[] 2)=Wx at *;go_loopw [9,10] (fun v i wr'=>∃(q:Nat) (A':Addr) (c':Nat),q<=Sd.length/\i= .int .i64 q/\v= .slice (some A') (DT (Sd.take q)).length c'/\(DT (Sd.take q)).length<=c'/\c'<=maxLen/\Hid (AQ wr' (w.heap.size+1) (.slice (some A') (DT (Sd.take q)).length c') (DT (Sd.take q)))/\Hid (AQ wr' (w.heap.size+1) (.slice sa Sd.length sc) Sd)/\Below w w wr') (fun _ i _=>Sd.length-(intOf i).toNat)
   case atStart=>exact⟨0,_,0,Nat.zero_le _,rfl,rfl,Nat.le_refl _,by unfold maxLen;omega,OM,OS1,B1⟩
   case round=>
    obtain⟨q,A',c',hqs,rfl,rfl,hc1,hc2,HP,HQ,hB'⟩:=hrel;clear OM OS1 B1;by_cases hlt2:q<Sd.length
    ·obtain⟨y,ey⟩:∃y,Sd[q]? =some y:=⟨Sd[q],by simp[hlt2]⟩;obtain⟨kb,ko,rfl,_,kcc⟩:=AQ.lies HQ.out (by omega);have g1:wr.cell? ⟨kb,ko+q,none⟩=some (.int .i64 y):=kcc q _ (by simp[ey]);have i2:(q:Int)<(Sd.length:Int):=(by omega);have hln:(DT (Sd.take q)).length<=1048576:=(by have:=U3 (Sd.take q);rw[List.length_take]at this;omega);have ET:Hid (DW (DT (Sd.take q)) y=DT (Sd.take (q+1))):=hid (by
      rw[List.take_add_one,ey];unfold DT;rw[List.foldl_append];rfl)
     have C1:=hid (QU A' c' (DT (Sd.take q)) y wr hln hc1 hc2 (AQ.lies HP.out));rw[ET.out]at C1;have PP:Hid (0<(DT (Sd.take (q+1))).length):=hid (by rw[<-ET.out];exact ZC _ _);clear kcc ey ET;go_wp2_with fail
     refine C1.out.mono ?_;rintro e w3 ⟨va,vc,rfl,o3,hb3⟩;obtain⟨g,rfl,z1,z2⟩:=o3.some_ PP.out;have HQ3:=hid (HQ.out.below hb3);have B3:=Ac hB' hb3;have O3:=hid (o3.low (B':=w.heap.size+1) (by have:=World.ownsRow.lt HP.out A'.block rfl;omega));clear o3 hb3 g1 C1 HP HQ hc1 hc2;go_wp2;exact⟨⟨q+1,_,vc,by omega,by go_num,rfl,z1,z2,O3,HQ3,B3⟩,by simp[intOf];omega⟩
    ·have i2:¬(q:Int)<(Sd.length:Int):=(by omega);have e:q=Sd.length:=(by omega);have HP2:Hid (AQ wr w (.slice (some A') (DT (Sd.take q)).length c') (FL ((Gd (fun i=>(k.O i).id) (fun i=>(k.O i).up) k.on k.on u).map (fun i=>(k.O i).id)))):=hid (by
      rw[<-PUT.out];have h:=HP.out.low (B':=w.heap.size) (by omega);have e2:Sd.take q=Sd:=(by rw[e,List.take_length]);rw[e2]at h ⊢;exact h)
     clear HP e PUT;go_wp2;go_ret;exact⟨_,rfl,HP2.out,hB'⟩
def Ve(k:AJ)(x:Int):List Int:=if AW k=true then(match Bv (fun i=>(k.O i).id) k.on x with
 |some u=>FL ((Gd (fun i=>(k.O i).id) (fun i=>(k.O i).up) k.on k.on u).map (fun i=>(k.O i).id))
 |none=>[])else[]
theorem YX{k:AJ}(h:AW k=true):∀j,j<k.on->(fun i=>(k.O i).id) j≠(fun i=>(k.O i).up) 0:=fun j hj=>by
 have ho:=(CG h).2.1;have:=Eo ho j hj;have:=(Cu ho).2.2;dsimp only;omega
theorem Mz{k:AJ}(h:AW k=true){u:Nat}(hu:u<k.on):Iq (fun i=>(k.O i).id) (fun i=>(k.O i).up) k.on u:=by
 obtain⟨m,_,e⟩:=Gq.1 (CG h).2.2.2.2 u hu;exact Oq e
theorem Vl(k:AJ)(x:Int):(Ve k x).length<=271:=by
 unfold Ve;split
 ·rename_i h;obtain⟨_,h2,_⟩:=BJ (CG h).2.1;split
  ·rename_i u hu;obtain⟨hu,_⟩:=AZ hu;rw[Jg,List.length_map];have:=Hj (IN (Cq (CG h).2.1) (YX h) (f:=k.on) hu (Mz h hu)) (fun x hx=>((Ef (Cq (CG h).2.1) (YX h) hu).1 hx).1);omega
  ·simp
 ·simp
open Go.BigFrame Go.Shelf
variable {w:World}{B ca co u j:Nat}{ta oa:Option Addr}{lt:List Af}{lo:List Ae}{x:Int}{G:List Int}
theorem AQ.form{v:Value}{l:List Int}(h:AQ w B v l):∃a c,v= .slice a l.length c:=by
 rcases h.2 with⟨hv,hl⟩|⟨g,cap,cur,hv,_⟩
 ·exact⟨none,0,by rw[hv,hl]⟩
 ·exact⟨_,_,hv⟩
def Dy(lo:List Ae)(u:Nat):List Int:=FL ((Gd (fun i=>(Aa lo i).id) (fun i=>(Aa lo i).up) lo.length lo.length u).map (fun i=>(Aa lo i).id))
theorem br(h:Cf w B (.slice ta lt.length ca) (.slice oa lo.length co) lt lo)(h1:lt.length<=1048576)(h2:lo.length<=1048576)(h3:∀x∈lo,x.data.size<=maxLen)(ok:AW (Dm ta ca oa co lt lo)=true)(hu:Nz lo x=some u):
 Calls prog 114 #[.agg #[.slice ta lt.length ca,.slice oa lo.length co],.int .i64 x] w fun e w'=>∃a c,e= .returned (.slice a (Dy lo u).length c)/\AQ w' w (.slice a (Dy lo u).length c) (Dy lo u)/\Below w w w':=by
 obtain⟨u1,u2⟩:=AZ hu;have hh:=Uh (Dm ta ca oa co lt lo) u w (h.at h1 h2 h3) (CG ok).2.1 u1 (Mz ok u1);have e:((Dm ta ca oa co lt lo).O u).id=x:=u2;rw[e]at hh;refine hh.mono ?_;rintro e w' ⟨v,rfl,h1,h2⟩;obtain⟨a,c,rfl⟩:=h1.form;exact⟨a,c,rfl,h1,h2⟩
theorem XU(ok:AW (Dm ta ca oa co lt lo)=true)(hu:Nz lo x=some u):(Dy lo u).length<=271:=by
 have h:=Vl (Dm ta ca oa co lt lo) x;unfold Ve at h;rw[if_pos ok]at h;have e:Bv (fun i=>((Dm ta ca oa co lt lo).O i).id) (Dm ta ca oa co lt lo).on x=some u:=hu;rw[e]at h;exact h
theorem cQ(ok:AW (Dm ta ca oa co lt lo)=true)(u0:0<u)(hu:u<lo.length):∃p,Nz lo (lo[u]).up=some p:=by
 have k:=Cl.1 ok;obtain⟨p,p1,p2,_⟩:=k.box u u0 hu;have e:=Dx k.rise p1;have e1:Aa lo u=lo[u]:=by simp[Aa,hu]
 have e2:((Dm ta ca oa co lt lo).O u).up=lo[u].up:=by rw[<-e1];rfl
 refine⟨p,?_⟩;rw[<-e2,<-p2];exact e
def FG(G:List Int)(lo:List Ae)(j:Nat):List Ae:=(lo.take j).filter (fun o=> !hasB G.length (Bl G) o.id)
theorem Pt(hj:j<lo.length)(h:hasB G.length (Bl G) lo[j].id=true):FG G lo (j+1)=FG G lo j:=by
 unfold FG;rw[List.take_succ_eq_append_getElem hj,List.filter_append];simp[h]
theorem Wg(hj:j<lo.length)(h:hasB G.length (Bl G) lo[j].id=false):FG G lo (j+1)=FG G lo j++[lo[j]]:=by
 unfold FG;rw[List.take_succ_eq_append_getElem hj,List.filter_append];simp[h]
theorem XR(G:List Int)(lo:List Ae)(j:Nat):(FG G lo j).length<=j:=by
 unfold FG;refine Nat.le_trans (List.length_filter_le _ _) ?_;simp;omega
def Tj(X:Af)(lo:List Ae)(x:Int):Bool:=match Nz lo x with
 |some u=>decide (0<u)&&(match Nz lo (Aa lo u).up with
  |some p=>AR X (Aa lo p).b1 (Aa lo p).c1
  |none=>false)
 |none=>false
def bI(X:Af)(s:Bd)(lo:List Ae)(c:Int)(lo':List Ae):Prop:=
 (c=4/\Tj X lo s.id=false/\lo'=lo)∨(c=0/\Tj X lo s.id=true/\∃u,Nz lo s.id=some u/\0<u/\lo'=FG (Dy lo u) lo lo.length)
theorem VC(lt:List Af)(lo:List Ae)(g ca q co B:Nat)(w:World)(st:Cf w B (.slice g lt.length ca) (.slice q lo.length co) lt lo)(hB:B<=w.heap.size)(t:Nat)(ht:t<lt.length)(X:Af)(hX:X=lt[t])(xs:X.small)(s:Bd)
 (ra:Fg X.c1)(hl1:lt.length<=1048576)(hl2:lo.length<=1048000)(hd:∀x∈lo,x.data.size<=maxLen)(hO:∀x∈lo,x.c1.n<=1048576/\Fg x.c1)(ok:AW (Dm (some ⟨g,0,none⟩) ca (some ⟨q,0,none⟩) co lt lo)=true):
 Calls prog 90 #[.agg #[.slice g lt.length ca,.slice q lo.length co],.int .i64 t,.agg s] w fun e w'=>∃(lo':List Ae) (ob:Option Addr) (cb:Nat) (c:Int),e= .returned (.tuple #[.agg #[.slice g lt.length ca,.slice ob lo'.length cb],.int .i64 c,.string ⟨#[]⟩])/\Cf w' B (.slice g lt.length ca) (.slice ob lo'.length cb) lt lo'/\Below B w w'/\bI X s lo c lo':=by
 obtain⟨th,kd,id_,to_,cat,dat,sb1,sc1,sb2,sc2⟩:=s;simp only;have XA:Hid (X.at w):=hid (by rw[hX];exact(st.tn _ (List.getElem_mem ht)).at);have OK:=hid ok;have n11:No (.cells #[th,kd,id_,to_,cat,.string dat,sb1,sc1,sb2,sc2] 77):=⟨⟩;have n13:No (.cells #[.slice g lt.length ca,.slice q lo.length co] 27):=⟨⟩;have n15:No (.cells #[.slice none 0 0,.slice none 0 0] 27):=⟨⟩;have n10:Nw (((w.alloc n13).alloc n11).alloc n15):=⟨⟩;have b0:Below w w n10:=((CY w _).alloc (by simp) _).alloc (by simp;omega) _;have A0:Ai n10 w n13:=((Ai.new w _).alloc _).alloc _;have P0:Ai n10 (w.heap.size+1) n11:=by have:=(Ai.new (w.alloc n13) n11).alloc n15;simpa using this
 have R0:Ai n10 (w.heap.size+1+1) n15:=by have:=Ai.new ((w.alloc n13).alloc n11) n15;simpa using this
 have HS:=hid (st.below b0);have HB:=hid b0;have HA:=hid A0;have HP:=hid P0;have HR:=hid R0;have EX:=hid hX;have i0:(0:Int)<=(t:Int):=by omega
 have i1:(t:Int)<(lt.length:Int):=by omega
 clear b0 A0 P0 R0 hX st ok;go_enter func90,ntmps90
 obtain⟨x0,x1⟩:=HA.out.two;obtain⟨s0,s1,s2,s3,s4,s5,s6,s7,s8,s9⟩:=HP.out.jE;go_wp2_with fail
 have BX:Hid (∀W,Below (n10:World).heap.size n10 W->Ai W w n13/\Ai W (w.heap.size+1) n11/\Ai W (w.heap.size+1+1) n15/\Cf W B (.slice g lt.length ca) (.slice q lo.length co) lt lo):=hid (fun W hW=>⟨HA.out.below hW,HP.out.below hW,HR.out.below hW,HS.out.below hW⟩);have LW:Hid (∀W,Below (n10:World).heap.size n10 W->Below w w W):=hid (fun W hW=>Ac HB hW);have LB:Hid (∀W,Below (n10:World).heap.size n10 W->Below B w W):=hid (fun W hW=>(Ac HB hW).mono hB);have V0:=hid (Below.refl (n10:World).heap.size n10);clear x0 x1 s0 s1 s2 s3 s4 s5 s6 s7 s8 s9 HA HP HR HS;generalize (n10:World)=V at *;refine(OY (BX _ V0).2.2.2 hl1 (by omega) hd id_).mono ?_;rintro e w1 ⟨rfl,hb1⟩;have V1:=hid (Ac V0 hb1);clear hb1;have D0:=hid (AE V1);have MB:Hid (Tj X lo id_=match Nz lo id_ with|some u=>decide (0<u)&&(match Nz lo (Aa lo u).up with|some p=>AR X (Aa lo p).b1 (Aa lo p).c1|none=>false)|none=>false):=hid rfl;cases hu:Nz lo id_ with
 |none=>
  rw[hu]at MB;simp only[IJ]at MB ⊢;have j0:decide (((-1:Int))<1)=true:=rfl;go_wp2_with fail
  refine Av 24 (fun W=>Below V V W) (by kernel_rfl) ?_;refine tr 0 17 (.int .i64 (-1)) D0 ?_;refine tr 1 18 (.bool true) D0 ?_;refine tr 2 19 (.bool true) D0 ?_;refine Td 20 [(3,20),(4,21),(5,22),(6,23),(7,24),(8,25),(9,26),(10,27),(11,28),(12,29),(13,30),(14,31),(15,32),(16,33),(17,34),(18,35),(19,36),(20,37),(21,38),(22,39)] rfl (by kernel_rfl) D0 ?_;simp only[FA,ap,List.set];refine tr 23 40 (.bool true) D0 ?_;refine Ao (by kernel_rfl) ?_ _;have VL:=hid (D0.out);clear D0;generalize w1.drew=wd at *;obtain⟨x0,x1⟩:=(BX _ VL).1.two;obtain⟨s0,s1,s2,s3,s4,s5,s6,s7,s8,s9⟩:=(BX _ VL).2.1.jE;obtain⟨r0,r1⟩:=(BX _ VL).2.2.1.two;have rf:=(BX _ VL).2.2.1.jC;go_wp2;have RB:=hid (BX.out _ VL).2.2.1;have KB:=hid (BX.out _ VL).2.2.2;refine bodyPost_ret (Am _ _ (w.heap.size+1+1) 6 _ _ _ _ Tryz.results90 ((RB.out.jB (i:=0) _).jB (i:=1) _) rfl rfl rfl) rfl ⟨lo,some ⟨q,0,none⟩,co,4,rfl,?_,?_,.inl ⟨rfl,MB,rfl⟩⟩
  ·exact(KB.out.set RB (.inl rfl) _).set (RB.out.jB (i:=0) _) (.inl rfl) _
  ·exact((LB _ VL).setCell (by dsimp only;omega) _).setCell (by dsimp only;omega) _
 |some u=>
  cases u with
  |zero=>
   rw[hu]at MB;have MB2:Hid (Tj X lo id_=false):=hid (by rw[MB.out];rfl);clear MB;have MB:=MB2;simp only[IJ,Int.ofNat_zero]at⊢;have j0:decide (((0:Int))<1)=true:=rfl;go_wp2_with fail
   refine Av 24 (fun W=>Below V V W) (by kernel_rfl) ?_;refine tr 0 17 (.int .i64 0) D0 ?_;refine tr 1 18 (.bool true) D0 ?_;refine tr 2 19 (.bool true) D0 ?_;refine Td 20 [(3,20),(4,21),(5,22),(6,23),(7,24),(8,25),(9,26),(10,27),(11,28),(12,29),(13,30),(14,31),(15,32),(16,33),(17,34),(18,35),(19,36),(20,37),(21,38),(22,39)] rfl (by kernel_rfl) D0 ?_;simp only[FA,ap,List.set];refine tr 23 40 (.bool true) D0 ?_;refine Ao (by kernel_rfl) ?_ _;have VL:=hid (D0.out);clear D0;generalize w1.drew=wd at *;obtain⟨x0,x1⟩:=(BX _ VL).1.two;obtain⟨s0,s1,s2,s3,s4,s5,s6,s7,s8,s9⟩:=(BX _ VL).2.1.jE;obtain⟨r0,r1⟩:=(BX _ VL).2.2.1.two;have rf:=(BX _ VL).2.2.1.jC;go_wp2;have RB:=hid (BX.out _ VL).2.2.1;have KB:=hid (BX.out _ VL).2.2.2;refine bodyPost_ret (Am _ _ (w.heap.size+1+1) 6 _ _ _ _ Tryz.results90 ((RB.out.jB (i:=0) _).jB (i:=1) _) rfl rfl rfl) rfl ⟨lo,some ⟨q,0,none⟩,co,4,rfl,?_,?_,.inl ⟨rfl,MB,rfl⟩⟩
   ·exact(KB.out.set RB (.inl rfl) _).set (RB.out.jB (i:=0) _) (.inl rfl) _
   ·exact((LB _ VL).setCell (by dsimp only;omega) _).setCell (by dsimp only;omega) _
  |succ u'=>
   obtain⟨u,eu⟩:∃u,u=u'+1:=⟨_,rfl⟩;rw[<-eu]at hu ⊢;have u0:0<u:=(by omega);clear eu;obtain⟨ul,ei⟩:=Ht hu;obtain⟨p,hp⟩:=cQ OK u0 ul;obtain⟨pl,ep⟩:=Ht hp;have eo:Aa lo u=lo[u]:=(by simp[Aa,ul]);have eb:Aa lo p=lo[p]:=(by simp[Aa,pl]);have MB2:Hid (Tj X lo id_=AR X (lo[p]).b1 (lo[p]).c1):=hid (by rw[MB.out,hu];simp only[eo,hp,eb,u0,decide_true,Bool.true_and]);clear MB;have MB:=MB2;clear MB2;obtain⟨o,ho⟩:∃o,o=lo[u]:=⟨_,rfl⟩;obtain⟨b,hb⟩:∃o,o=lo[p]:=⟨_,rfl⟩;have HOb:=hid (hO _ (List.getElem_mem pl));rw[<-hb]at MB HOb;rw[<-ho]at hp;have EO:=hid ho;have EB:=hid hb;have HU:=hid hu;have HP:=hid hp;have U0:=hid u0;simp only[IJ];have j0:decide (((u:Nat):Int)<1)=false:=decide_eq_false (by omega);have j1:(u:Int)<(lo.length:Int):=(by omega);have j2:(0:Int)<=(u:Int):=(by omega);have j3:(p:Int)<(lo.length:Int):=(by omega);have j4:(0:Int)<=(p:Int):=(by omega);clear ei ep eo eb ho hb hu hp u0;have OC:Hid (∀W,Below V V W->W.cell? ⟨q,u*10,none⟩=some (.int .i64 o.id)/\W.cell? ⟨q,u*10+1,none⟩=some (.int .i64 o.kind)/\W.cell? ⟨q,u*10+2,none⟩=some (.int .i64 o.up)/\W.cell? ⟨q,u*10+3,none⟩=some (.int .i64 o.b1)/\W.cell? ⟨q,u*10+4,none⟩=some (.slice o.c1.a o.c1.n o.c1.k)/\W.cell? ⟨q,u*10+5,none⟩=some (.string o.data)/\W.cell? ⟨q,u*10+6,none⟩=some (.slice o.jA.a o.jA.n o.jA.k)/\W.cell? ⟨q,u*10+7,none⟩=some (.slice o.own.a o.own.n o.own.k)/\W.cell? ⟨q,u*10+8,none⟩=some (.int .i64 o.b2)/\W.cell? ⟨q,u*10+9,none⟩=some (.slice o.c2.a o.c2.n o.c2.k)):=hid (fun W hW=>by
    have C:=((BX _ hW).2.2.2.jF ul hd).1;rw[<-EO.out]at C;exact⟨C.c0,C.c1,C.c2,C.c3,C.c4,C.c5,C.c6,C.c7,C.c8,C.c9⟩)
   have PC:Hid (∀W,Below V V W->W.cell? ⟨q,p*10,none⟩=some (.int .i64 b.id)/\W.cell? ⟨q,p*10+1,none⟩=some (.int .i64 b.kind)/\W.cell? ⟨q,p*10+2,none⟩=some (.int .i64 b.up)/\W.cell? ⟨q,p*10+3,none⟩=some (.int .i64 b.b1)/\W.cell? ⟨q,p*10+4,none⟩=some (.slice b.c1.a b.c1.n b.c1.k)/\W.cell? ⟨q,p*10+5,none⟩=some (.string b.data)/\W.cell? ⟨q,p*10+6,none⟩=some (.slice b.jA.a b.jA.n b.jA.k)/\W.cell? ⟨q,p*10+7,none⟩=some (.slice b.own.a b.own.n b.own.k)/\W.cell? ⟨q,p*10+8,none⟩=some (.int .i64 b.b2)/\W.cell? ⟨q,p*10+9,none⟩=some (.slice b.c2.a b.c2.n b.c2.k)):=hid (fun W hW=>by
    have C:=((BX _ hW).2.2.2.jF pl hd).1;rw[<-EB.out]at C;exact⟨C.c0,C.c1,C.c2,C.c3,C.c4,C.c5,C.c6,C.c7,C.c8,C.c9⟩)
   have TC:Hid (∀W,Below V V W->W.cell? ⟨g,t*7,none⟩=some (.int .i64 X.id)/\W.cell? ⟨g,t*7+1,none⟩=some (.int .i64 X.b1)/\W.cell? ⟨g,t*7+2,none⟩=some (.slice X.c1.a X.c1.n X.c1.k)/\W.cell? ⟨g,t*7+3,none⟩=some (.int .i64 X.b2)/\W.cell? ⟨g,t*7+4,none⟩=some (.slice X.c2.a X.c2.n X.c2.k)/\W.cell? ⟨g,t*7+5,none⟩=some (.slice X.own.a X.own.n X.own.k)/\W.cell? ⟨g,t*7+6,none⟩=some (.int .i64 X.made)):=hid (fun W hW=>by
    have C:=((BX _ hW).2.2.2.jJ ht).1;rw[<-EX.out]at C;exact⟨C.c0,C.c1,C.c2,C.c3,C.c4,C.c5,C.c6⟩)
   have E1:Hid (∀args w,(callFunc 50 args).run prog w= .ok (.enter 50 args) w):=hid (enters_of func50 (by kernel_rfl) rfl);have E2:Hid (∀args w,(callFunc 112 args).run prog w= .ok (.enter 112 args) w):=hid (enters_of func112 (by kernel_rfl) rfl);have n14:Na #[.slice g lt.length ca,.slice q lo.length co]:=⟨⟩;have F1:Hid (∀W,Below V V W->Calls prog 50 #[.agg n14,o.up] W fun e w'=>∃v,e= .returned v/\(v= .int .i64 p/\Below W W w')):=hid (fun W hW=>by
    have h:=OY (BX _ hW).2.2.2 hl1 (by omega) hd o.up;rw[HP.out]at h;exact FV h)
   have n16:Na #[b.b1,b.c1]:=⟨⟩;have F2:Hid (∀W,Below V V W->Calls prog 112 #[.agg X,.agg n16] W fun e w'=>∃v,e= .returned v/\(v= .bool (AR X b.b1 b.c1)/\Below W W w')):=hid (fun W hV=>FV<|Hm X b.b1 b.c1 W (XA.out.below (LW _ hV)) xs ra (by
    have:=((BX _ hV).2.2.2.on _ (List.getElem_mem pl)).1.1;rw[<-EB.out]at this;exact this) HOb.out.1 HOb.out.2)
   generalize AR X b.b1 b.c1=c2 at *;cases c2 with
   |false=>
    go_wp2_with fail
    refine Av 24 (fun W=>Below V V W) (by kernel_rfl) ?_;refine tr 0 17 (.int .i64 u) D0 ?_;refine tr 1 18 (.bool false) D0 ?_;refine tr 2 19 (.bool false) D0 ?_;refine tr 3 20 (.pointer (w)) D0 ?_;refine tr 4 21 (.slice g lt.length ca) D0 ?_ (hy:=fun W h=>by obtain⟨z0,z1⟩:=(BX W h).1.two;go_simp);refine tr 5 22 (.int .i64 t) D0 ?_;refine tr 6 23 (.pointer (some ⟨g,t*7,none⟩)) D0 ?_;refine tr 7 24 (.agg X) D0 ?_ (hy:=fun W h=>by obtain⟨z0,z1,z2,z3,z4,z5,z6⟩:=TC.out W h;go_simp);have n19:Nv (.pointer (some ⟨w,1,none⟩)):=⟨⟩;refine tr 8 25 n19 D0 ?_;have n17:Nv (.slice q lo.length co):=⟨⟩;refine tr 9 26 n17 D0 ?_ (hy:=fun W h=>by obtain⟨z0,z1⟩:=(BX W h).1.two;go_simp);refine tr 10 27 (.agg n14) D0 ?_ (hy:=fun W h=>by obtain⟨z0,z1⟩:=(BX W h).1.two;go_simp);refine tr 11 28 n19 D0 ?_;refine tr 12 29 n17 D0 ?_ (hy:=fun W h=>by obtain⟨z0,z1⟩:=(BX W h).1.two;go_simp);refine tr 13 30 (.int .i64 u) D0 ?_;refine tr 14 31 (.pointer (some ⟨q,u*10,none⟩)) D0 ?_;refine tr 15 32 (.pointer (some ⟨q,u*10+2,none⟩)) D0 ?_;refine tr 16 33 (.int .i64 o.up) D0 ?_ (hy:=fun W h=>by obtain⟨z0,z1,z2,z3,z4,z5,z6,z7,z8,z9⟩:=OC.out W h;obtain⟨n0,n1,n2,n3,n4,n5,n6,n7,n8,n9⟩:=PC.out W h;go_simp);refine Ab (i:=17) (by kernel_rfl) rfl ?_;intro K hK;refine Bc (by rfl) 50 _ _ _ (by rfl) E1 _ _ (by rfl) (by rfl) (some 34) (by rfl) _ (F1 _ D0) ?_;rintro v w2 ⟨rfl,hb⟩;have H1:=Ac D0 hb;refine hK _ _ (fun _=>H1) ?_;clear hK K hb;simp only[ap,List.set];refine tr 18 35 (.pointer (some ⟨q,p*10,none⟩)) H1 ?_;refine tr 19 36 (.pointer (some ⟨q,p*10+3,none⟩)) H1 ?_;refine tr 20 37 (.agg n16) H1 ?_ (hy:=fun W h=>by obtain⟨z0,z1,z2,z3,z4,z5,z6,z7,z8,z9⟩:=OC.out W h;obtain⟨n0,n1,n2,n3,n4,n5,n6,n7,n8,n9⟩:=PC.out W h;go_simp);refine Ab (i:=21) (by kernel_rfl) rfl ?_;intro K hK;refine Bc (by rfl) 112 _ _ _ (by rfl) E2 _ _ (by rfl) (by rfl) (some 38) (by rfl) _ (F2 _ H1) ?_;rintro v w3 ⟨rfl,hb⟩;have H2:=Ac H1 hb;refine hK _ _ (fun _=>H2) ?_;clear hK K hb;simp only[ap,List.set];refine tr 22 39 (.bool true) H2 ?_;refine tr 23 40 (.bool true) H2 ?_;refine Ao (by kernel_rfl) ?_ _;have VL:=hid (H2);obtain⟨x0,x1⟩:=(BX _ VL).1.two;obtain⟨s0,s1,s2,s3,s4,s5,s6,s7,s8,s9⟩:=(BX _ VL).2.1.jE;obtain⟨r0,r1⟩:=(BX _ VL).2.2.1.two;have rf:=(BX _ VL).2.2.1.jC;go_wp2;have RB:=hid (BX.out _ VL).2.2.1;have KB:=hid (BX.out _ VL).2.2.2;refine bodyPost_ret (Am _ _ (w.heap.size+1+1) 6 _ _ _ _ Tryz.results90 ((RB.out.jB (i:=0) _).jB (i:=1) _) rfl rfl rfl) rfl ⟨lo,some ⟨q,0,none⟩,co,4,rfl,?_,?_,.inl ⟨rfl,MB,rfl⟩⟩
    ·exact(KB.out.set RB (.inl rfl) _).set (RB.out.jB (i:=0) _) (.inl rfl) _
    ·exact((LB _ VL).setCell (by dsimp only;omega) _).setCell (by dsimp only;omega) _
   |true=>
   go_wp2_with fail
   refine Av 24 (fun W=>Below V V W) (by kernel_rfl) ?_;refine tr 0 17 (.int .i64 u) D0 ?_;refine tr 1 18 (.bool false) D0 ?_;refine tr 2 19 (.bool false) D0 ?_;refine tr 3 20 (.pointer (w)) D0 ?_;refine tr 4 21 (.slice g lt.length ca) D0 ?_ (hy:=fun W h=>by obtain⟨z0,z1⟩:=(BX W h).1.two;go_simp);refine tr 5 22 (.int .i64 t) D0 ?_;refine tr 6 23 (.pointer (some ⟨g,t*7,none⟩)) D0 ?_;refine tr 7 24 (.agg X) D0 ?_ (hy:=fun W h=>by obtain⟨z0,z1,z2,z3,z4,z5,z6⟩:=TC.out W h;go_simp);have n20:Nv (.pointer (some ⟨w,1,none⟩)):=⟨⟩;refine tr 8 25 n20 D0 ?_;have n18:Nv (.slice q lo.length co):=⟨⟩;refine tr 9 26 n18 D0 ?_ (hy:=fun W h=>by obtain⟨z0,z1⟩:=(BX W h).1.two;go_simp);refine tr 10 27 (.agg n14) D0 ?_ (hy:=fun W h=>by obtain⟨z0,z1⟩:=(BX W h).1.two;go_simp);refine tr 11 28 n20 D0 ?_;refine tr 12 29 n18 D0 ?_ (hy:=fun W h=>by obtain⟨z0,z1⟩:=(BX W h).1.two;go_simp);refine tr 13 30 (.int .i64 u) D0 ?_;refine tr 14 31 (.pointer (some ⟨q,u*10,none⟩)) D0 ?_;refine tr 15 32 (.pointer (some ⟨q,u*10+2,none⟩)) D0 ?_;refine tr 16 33 (.int .i64 o.up) D0 ?_ (hy:=fun W h=>by obtain⟨z0,z1,z2,z3,z4,z5,z6,z7,z8,z9⟩:=OC.out W h;obtain⟨n0,n1,n2,n3,n4,n5,n6,n7,n8,n9⟩:=PC.out W h;go_simp);refine Ab (i:=17) (by kernel_rfl) rfl ?_;intro K hK;refine Bc (by rfl) 50 _ _ _ (by rfl) E1 _ _ (by rfl) (by rfl) (some 34) (by rfl) _ (F1 _ D0) ?_;rintro v w2 ⟨rfl,hb⟩;have H1:=Ac D0 hb;refine hK _ _ (fun _=>H1) ?_;clear hK K hb;simp only[ap,List.set];refine tr 18 35 (.pointer (some ⟨q,p*10,none⟩)) H1 ?_;refine tr 19 36 (.pointer (some ⟨q,p*10+3,none⟩)) H1 ?_;refine tr 20 37 (.agg n16) H1 ?_ (hy:=fun W h=>by obtain⟨z0,z1,z2,z3,z4,z5,z6,z7,z8,z9⟩:=OC.out W h;obtain⟨n0,n1,n2,n3,n4,n5,n6,n7,n8,n9⟩:=PC.out W h;go_simp);refine Ab (i:=21) (by kernel_rfl) rfl ?_;intro K hK;refine Bc (by rfl) 112 _ _ _ (by rfl) E2 _ _ (by rfl) (by rfl) (some 38) (by rfl) _ (F2 _ H1) ?_;rintro v w3 ⟨rfl,hb⟩;have H2:=Ac H1 hb;refine hK _ _ (fun _=>H2) ?_;clear hK K hb;simp only[ap,List.set];refine tr 22 39 (.bool false) H2 ?_;refine tr 23 40 (.bool false) H2 ?_;refine Ao (by kernel_rfl) ?_ _;have VL:=hid H2;clear H1 H2 OC PC TC F1 F2 E1 E2 D0 V1 V0;obtain⟨x0,x1⟩:=(BX _ VL).1.two;obtain⟨s0,s1,s2,s3,s4,s5,s6,s7,s8,s9⟩:=(BX _ VL).2.1.jE;obtain⟨r0,r1⟩:=(BX _ VL).2.2.1.two;have rf:=(BX _ VL).2.2.1.jC;go_wp2_with fail
   refine(br (BX _ VL).2.2.2 hl1 (by omega) hd OK HU).mono ?_;rintro e w4 ⟨ga,gc,rfl,og,hb4⟩;have V4:=hid (Ac VL hb4);have gle:(Dy lo u).length<=271:=XU OK HU.out;have GA:Hid (∀W,Below w4 w4 W->AU.at W ⟨ga,(Dy lo u).length,gc,Bl (Dy lo u)⟩):=hid (fun W hW=>(og.newL (by omega)).1.below hW);have E0:=hid (Ba.made w4 w4 nr);have BE:=hid (CY w4 (.cells #[] 51));obtain⟨GL,eGL⟩:∃l,l=Dy lo u:=⟨_,rfl⟩;rw[<-eGL]at gle GA og ⊢;have EG:=hid eGL;clear x0 x1 s0 s1 s2 s3 s4 s5 s6 s7 s8 s9 r0 r1 rf og hb4 eGL;obtain⟨x0,x1⟩:=(BX _ V4).1.two;obtain⟨s0,s1,s2,s3,s4,s5,s6,s7,s8,s9⟩:=(BX _ V4).2.1.jE;obtain⟨r0,r1⟩:=(BX _ V4).2.2.1.two;have rf:=(BX _ V4).2.2.1.jC;go_wp2;clear x0 x1 s0 s1 s2 s3 s4 s5 s6 s7 s8 s9 r0 r1 rf;go_loopw [11,12] (fun v i wr=>∃(j:Nat) (la:Option Addr) (lc:Nat),j<=lo.length/\i= .int .i64 j/\v= .slice la (FG GL lo j).length lc/\Ba wr w4 (.slice la (FG GL lo j).length lc) (FG GL lo j)/\Below w4 w4 wr) (fun _ i _=>lo.length-(intOf i).toNat)
   case atStart=>exact⟨0,_,0,Nat.zero_le _,rfl,rfl,E0,BE⟩
   case round=>
    clear E0 BE;obtain⟨j,la,lc,hj,rfl,rfl,ow,be⟩:=hrel;have OW:=hid ow;have BB:=hid be;have VW:=hid (V4.out.trans (be.mono V4.out.size));have ll:=XR GL lo j;obtain⟨SL,eSL⟩:∃l,l=FG GL lo j:=⟨_,rfl⟩;rw[<-eSL]at OW ll ⊢;have ES:=hid eSL;clear ow be eSL;obtain⟨x0,x1⟩:=(BX _ VW).1.two;obtain⟨s0,s1,s2,s3,s4,s5,s6,s7,s8,s9⟩:=(BX _ VW).2.1.jE;obtain⟨r0,r1⟩:=(BX _ VW).2.2.1.two;have rf:=(BX _ VW).2.2.1.jC;by_cases hlt:j<lo.length
    ·have i2:(j:Int)<(lo.length:Int):=(by omega);have i3:(0:Int)<=(j:Int):=(by omega);obtain⟨y,ey⟩:∃y,y=lo[j]:=⟨_,rfl⟩;have CJ:Hid (∀W,Below V V W->Eg W q (j*10) y):=hid (fun W hW=>by rw[ey];exact((BX _ hW).2.2.2.jF hlt hd).1);have HLT:=hid hlt;have EY:=hid ey;have q0:wr.cell? ⟨q,j*10,none⟩=some (.int .i64 y.id):=(CJ _ VW).c0;have q1:wr.cell? ⟨q,j*10+1,none⟩=some (.int .i64 y.kind):=(CJ _ VW).c1;have q2:wr.cell? ⟨q,j*10+2,none⟩=some (.int .i64 y.up):=(CJ _ VW).c2;have q3:wr.cell? ⟨q,j*10+3,none⟩=some (.int .i64 y.b1):=(CJ _ VW).c3;have q4:wr.cell? ⟨q,j*10+4,none⟩=some (.slice y.c1.a y.c1.n y.c1.k):=(CJ _ VW).c4;have q5:wr.cell? ⟨q,j*10+5,none⟩=some (.string y.data):=(CJ _ VW).c5;have q6:wr.cell? ⟨q,j*10+6,none⟩=some (.slice y.jA.a y.jA.n y.jA.k):=(CJ _ VW).c6;have q7:wr.cell? ⟨q,j*10+7,none⟩=some (.slice y.own.a y.own.n y.own.k):=(CJ _ VW).c7;have q8:wr.cell? ⟨q,j*10+8,none⟩=some (.int .i64 y.b2):=(CJ _ VW).c8;have q9:wr.cell? ⟨q,j*10+9,none⟩=some (.slice y.c2.a y.c2.n y.c2.k):=(CJ _ VW).c9;have QB:Hid (q<V.heap.size):=hid ((BX _ (Below.refl V V)).2.2.2.jF hlt hd).2;obtain⟨hv,ehv⟩:∃b,b=hasB GL.length (Bl GL) y.id:=⟨_,rfl⟩;have CH:=bH ⟨ga,GL.length,gc,Bl GL⟩ y.id wr (GA _ BB);have eh:hasB (AU.n ⟨ga,GL.length,gc,Bl GL⟩) (AU.h ⟨ga,GL.length,gc,Bl GL⟩) y.id=hv:=ehv.symm;rw[eh]at CH;have CH':=hid CH;have EH:=hid ehv;clear CH eh ehv ey;cases hv with
     |true=>
      go_wp2_with fail
      refine CH'.out.mono ?_;rintro e w5 ⟨rfl,e5⟩;obtain rfl:wr=w5:=e5.symm;go_wp2;go_roundw;case rel=>exact⟨j+1,la,lc,by have:=HLT.out;omega,by go_num,by rw[Pt HLT.out (by rw[<-EY.out];exact EH.out.symm),<-ES.out],by rw[Pt HLT.out (by rw[<-EY.out];exact EH.out.symm),<-ES.out];exact OW.out,BB⟩
      case measure=>have:=HLT.out;simp[intOf];omega
     |false=>
      go_wp2_with fail
      refine CH'.out.mono ?_;rintro e w5 ⟨rfl,e5⟩;obtain rfl:wr=w5:=e5.symm;have sV:w4.heap.size<=wr.heap.size:=BB.out.size;have qw:q<wr.heap.size:=Nat.lt_of_lt_of_le QB VW.out.size;have n12:No (.cells y 51):=⟨⟩;have QO:=hid (OW.out.below ((Below.refl _ wr).alloc nr n12));have QL:Hid (Bh (wr.alloc n12) (some ⟨wr,0,none⟩) 1 (AY [y])):=hid (Ba.one wr y);have sQ:w4.heap.size<=(wr.alloc n12).heap.size:=(by simp;omega);have bQ:=hid (BB.out.alloc BB.out.size n12);go_wp2_with(at_builtin;refine Ch _ rfl _ _ rfl w4 (.slice la SL.length lc) SL rfl QO _ _ y rfl QL (by omega) sQ ?_;intro a7 c7 w7 o7 g7;have O7:=hid o7;have B7:Hid (Below w4 w4 w7):=hid (bQ.out.trans (below_grown g7 sQ (fun j e=>(World.ownsRow.lt QO j e).1)));clear o7 g7)
      have ER:Hid (FG GL lo (j+1)=SL++[y]):=hid (by rw[Wg HLT.out (by rw[<-EY.out];exact EH.out.symm),ES.out,<-EY.out]);go_roundw;case rel=>exact⟨j+1,a7,c7,by have:=HLT.out;omega,by go_num,by rw[ER.out];simp,by rw[ER.out,show(SL++[y]).length=SL.length+1 from by simp];exact O7.out,B7⟩
      case measure=>have:=HLT.out;simp[intOf];omega
    ·obtain rfl:j=lo.length:=by omega
     have i2:¬(lo.length:Int)<(lo.length:Int):=(by omega);have AB:=hid (BX.out _ VW).1;have RB:=hid (BX.out _ VW).2.2.1;have xf:=AB.out.jC;have KB:=hid (BX.out _ VW).2.2.2;have LD:=hid (LB.out _ VW);have B4:Hid (B<=w4.heap.size):=hid (Nat.le_trans hB (LW _ V4).size);go_wp2;have RA:Hid (Ai (wr.setCell ⟨w,1,none⟩ (.slice la SL.length lc)) (w.heap.size+1+1) (.cells #[.slice none 0 0,.slice none 0 0] 27)):=hid (RB.out.other (by omega) _);refine bodyPost_ret (Am _ _ (w.heap.size+1+1) 6 _ _ _ _ Tryz.results90 ((RA.out.jB (i:=0) _).jB (i:=1) _) rfl rfl rfl) rfl ⟨SL,la,lc,0,rfl,?_,?_,.inr ⟨rfl,MB,u,HU,U0,by rw[ES.out,EG.out]⟩⟩
     ·have ms:∀x∈SL,x∈lo:=fun x hx=>by
       rw[ES.out]at hx;exact List.mem_of_mem_take (List.mem_filter.1 hx).1
      have k1:Cf wr B (.slice g lt.length ca) (.slice la SL.length lc) lt SL:=⟨KB.out.t,OW.out.base B4,KB.out.tn,fun x hx=>KB.out.on x (ms x hx),KB.out.tc,fun x hx=>KB.out.oc x (ms x hx)⟩;exact((k1.set AB (.inl rfl) _).set RA (.inl rfl) _).set (RA.out.jB (i:=0) _) (.inl rfl) _
     ·exact((LD.out.setCell (by dsimp only;omega) _).setCell (by dsimp only;omega) _).setCell (by dsimp only;omega) _
variable {w:World}{B g co u:Nat}{vt:Value}{lt:List Af}{lo:List Ae}{o:Ae}
theorem cX(W:World):Calls prog 115 #[.int .i64 6] W fun e w'=>∃x,e= .returned x/\(x= .int .i64 1/\Below W W w'):=by
 go_enter func115,ntmps115
 go_wp2;go_ret;exact⟨_,rfl,rfl,Below.refl _ _⟩
theorem cZ(W:World):Calls prog 115 #[.int .i64 7] W fun e w'=>∃x,e= .returned x/\(x= .int .i64 1/\Below W W w'):=by
 go_enter func115,ntmps115
 go_wp2;go_ret;exact⟨_,rfl,rfl,Below.refl _ _⟩
theorem cP(W:World):Calls prog 115 #[.int .i64 8] W fun e w'=>∃x,e= .returned x/\(x= .int .i64 1/\Below W W w'):=by
 go_enter func115,ntmps115
 go_wp2;go_ret;exact⟨_,rfl,rfl,Below.refl _ _⟩
theorem cT(W:World):Calls prog 115 #[.int .i64 9] W fun e w'=>∃x,e= .returned x/\(x= .int .i64 2/\Below W W w'):=by
 go_enter func115,ntmps115
 go_wp2;go_ret;exact⟨_,rfl,rfl,Below.refl _ _⟩
theorem cd(W:World):Calls prog 115 #[.int .i64 10] W fun e w'=>∃x,e= .returned x/\(x= .int .i64 2/\Below W W w'):=by
 go_enter func115,ntmps115
 go_wp2;go_ret;exact⟨_,rfl,rfl,Below.refl _ _⟩
theorem cm(W:World):Calls prog 115 #[.int .i64 13] W fun e w'=>∃x,e= .returned x/\(x= .int .i64 4/\Below W W w'):=by
 go_enter func115,ntmps115
 go_wp2;go_ret;exact⟨_,rfl,rfl,Below.refl _ _⟩
theorem cK(W:World):Calls prog 115 #[.int .i64 15] W fun e w'=>∃x,e= .returned x/\(x= .int .i64 3/\Below W W w'):=by
 go_enter func115,ntmps115
 go_wp2;go_ret;exact⟨_,rfl,rfl,Below.refl _ _⟩
theorem Cf.setData(h:Cf w B vt (.slice g lo.length co) lt lo){d:ByteArray}(hu:u<lo.length)(ho:o=lo[u]):
 Cf (w.setCell ⟨g,u*10+5,none⟩ (.string d)) B vt (.slice g lo.length co) lt (lo.set u ⟨o.id,o.kind,o.up,o.b1,o.c1,d,o.jA,o.own,o.b2,o.c2⟩)/\(∃cur,Ai w g (.cells cur 51))/\B<=g:=by
 have hn:=h.on _ (List.getElem_mem hu);have hc:=h.oc _ (List.getElem_mem hu);rw[<-ho]at hn hc;obtain⟨k1,hcur,hg⟩:=h.setO (x:=⟨o.id,o.kind,o.up,o.b1,o.c1,d,o.jA,o.own,o.b2,o.c2⟩) (u:= .string d) hu (i:=5) (by omega) (by rw[<-ho];rfl) hn hc;have el:(lo.set u (⟨o.id,o.kind,o.up,o.b1,o.c1,d,o.jA,o.own,o.b2,o.c2⟩:Ae)).length=lo.length:=by simp
 rw[el]at k1;exact⟨k1,hcur,hg⟩
theorem Cf.setItems(h:Cf w B vt (.slice g lo.length co) lt lo){d:AX}(hu:u<lo.length)(ho:o=lo[u])(hd:d.new B w)(hdc:d.n<=d.k/\d.k<=maxLen):
 Cf (w.setCell ⟨g,u*10+6,none⟩ (.slice d.a d.n d.k)) B vt (.slice g lo.length co) lt (lo.set u ⟨o.id,o.kind,o.up,o.b1,o.c1,o.data,d,o.own,o.b2,o.c2⟩)/\(∃cur,Ai w g (.cells cur 51))/\B<=g:=by
 have hn:=h.on _ (List.getElem_mem hu);have hc:=h.oc _ (List.getElem_mem hu);rw[<-ho]at hn hc;obtain⟨k1,hcur,hg⟩:=h.setO (x:=⟨o.id,o.kind,o.up,o.b1,o.c1,o.data,d,o.own,o.b2,o.c2⟩) (u:= .slice d.a d.n d.k) hu (i:=6) (by omega) (by rw[<-ho];rfl) ⟨hn.1,hd,hn.2.2.1,hn.2.2.2⟩ hdc;have el:(lo.set u (⟨o.id,o.kind,o.up,o.b1,o.c1,o.data,d,o.own,o.b2,o.c2⟩:Ae)).length=lo.length:=by simp
 rw[el]at k1;exact⟨k1,hcur,hg⟩
def Ee(X:Af)(lo:List Ae)(x:Int)(k:Int):Option Nat:=match Nz lo x with
 |none=>none
 |some u=>if (decide ((Aa lo u).kind=k)&&Po X (Aa lo u).b1 (Aa lo u).c1)=true then some u else none
theorem Hy{X:Af}{x k:Int}(h:Ee X lo x k=some u):Nz lo x=some u/\∃hu:u<lo.length,(lo[u]'hu).id=x/\(lo[u]'hu).kind=k/\Po X (lo[u]'hu).b1 (lo[u]'hu).c1=true:=by
 unfold Ee at h;cases e:Nz lo x with
 |none=>rw[e]at h;cases h
 |some v=>
  rw[e]at h;simp only at h;split at h
  ·rename_i hh;cases h;obtain⟨hu,e2⟩:=Ht e;have eo:Aa lo u=lo[u]:=(by simp[Aa,hu]);rw[eo]at hh;simp only[Bool.and_eq_true,decide_eq_true_eq]at hh;exact⟨rfl,hu,e2,hh.1,hh.2⟩
  ·cases h
end Go.Proofs.YtblapfnglojgjaaGreatDoor
