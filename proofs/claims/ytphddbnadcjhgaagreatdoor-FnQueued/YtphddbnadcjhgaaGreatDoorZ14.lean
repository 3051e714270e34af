import Derived.Test.YtphddbnadcjhgaaGreatDoorZ11
set_option maxRecDepth 100000
set_option maxHeartbeats 8000000
namespace Go.Proofs.YtphddbnadcjhgaaGreatDoor
open Go Go.RowKit Go.Deep Go.Maps Go.Proofs.Tryz
theorem Ax.one(w:World)(B:Nat)(hb:B<=w.heap.size)(x:Int):Ax (w.alloc (.cells #[.int .i64 x] 2)) B (.slice (some ⟨w,0,none⟩) 1 1) [x]:=
 ⟨rfl,.inr ⟨w,1,#[.int .i64 x],rfl,hb,blk_alloc_new _ _,Nat.le_refl _,by unfold maxLen;omega,rfl,rfl⟩⟩
theorem Ax.some_{w:World}{B n c:Nat}{a:Option Addr}{l:List Int}(h:Ax w B (.slice a n c) l)(hl:0<l.length):∃g,a=some ⟨g,0,none⟩/\l.length<=c/\c<=maxLen:=by
 rcases h.2 with⟨hv,hn⟩|⟨g,cap,cur,hv,_,_,h1,h2,_⟩
 ·omega
 ·simp only[Value.slice.injEq]at hv;obtain⟨rfl,_,rfl⟩:=hv;exact⟨g,rfl,h1,h2⟩
theorem Rh(k:Aq)(u:Nat)(w:World)(hk:k.at w)(ho:BU k.on k.O=true)(hu:u<k.on)(hc:GM (fun i=>(k.O i).id) (fun i=>(k.O i).up) k.on u):
 Calls prog 92 #[k.val,.int .i64 (k.O u).id] w fun e w'=>∃v,e= .returned v/\Ax w' w v (Ct ((EJ (fun i=>(k.O i).id) (fun i=>(k.O i).up) k.on k.on u).map (fun i=>(k.O i).id)))/\Below w w w':=by
 obtain⟨on1,on2,_,_⟩:=Bv ho;have hr:=Bt ho;have h0:∀j,j<k.on->(fun i=>(k.O i).id) j≠(fun i=>(k.O i).up) 0:=fun j hj=>by have:=D4 ho j hj;have:=(Cg ho).2.2;dsimp only;omega
 have n1:No (.cells #[.slice k.ta k.tn k.tk,.slice k.oa k.on k.ok] 27):=⟨⟩;have hb0:Below w w (w.alloc n1):=(Below.refl _ w).alloc (Nat.le_refl _) _;have A0:=Ah.new w n1;have n3:No (.cells #[.int .i64 (k.O u).id] 2):=⟨⟩;have bm:=hb0.alloc hb0.size n3;have A1:=A0.alloc n3;have O1:=Ax.one (w.alloc n1) (w.heap.size+1) (by simp) (k.O u).id;have HT:=hid hk;have HR:=hid hr;have H0:=hid h0;have HC:=hid hc;have BS:Hid (Ud (fun i=>(k.O i).id) (fun i=>(k.O i).up) k.on u 0 [u]):=hid (Ud.start hu);unfold Aq.val;clear hk ho hr h0 hc;go_enter func92,ntmps92
 go_wp2;generalize hW:((w.alloc n1).alloc n3)=W at *;have O2:Ax W (w.heap.size+1) (.slice (some ⟨w.heap.size+1,0,none⟩) 1 1) ([u].map (fun i=>(k.O i).id)):=by simpa using O1
 clear hW hb0 A0 O1;go_loopw [5,6] (fun v i wr=>∃(t:Nat) (Q:List Nat),t<=Q.length/\Q.length<=271/\i= .int .i64 t/\Hid (Ud (fun i=>(k.O i).id) (fun i=>(k.O i).up) k.on u t Q)/\Hid (Ax wr (w.heap.size+1) v (Q.map (fun i=>(k.O i).id)))/\Ah wr w n1/\Below w w wr) (fun _ i _=>271-(intOf i).toNat)
 case atStart=>exact⟨0,[u],Nat.zero_le _,by simp,rfl,BS,hid O2,A1,bm⟩
 case round=>
  clear O2 A1 bm BS;obtain⟨t,Q,ht,hq,rfl,HB,HO,A,hB⟩:=hrel;obtain⟨sa,sc,es⟩:=CF HO.out;subst es;have ql:(Q.map (fun i=>(k.O i).id)).length=Q.length:=by simp
  have QL:=hid ql;rw[ql]at HO;rw[ql];clear ql;by_cases hlt:t<Q.length
  ·obtain⟨a,ea⟩:∃a,Q[t]? =some a:=⟨Q[t],by simp[hlt]⟩;have HA:=hid ea;have hl0:0<(Q.map (fun i=>(k.O i).id)).length:=(by rw[QL.out];omega);have lies:=Ax.lies (a:=sa) (c:=sc) (l:=Q.map (fun i=>(k.O i).id)) (by rw[QL.out];exact HO.out);obtain⟨sb,so,rfl,slt,scc⟩:=lies hl0;have g1:wr.cell? ⟨sb,so+t,none⟩=some (.int .i64 (k.O a).id):=scc t _ (by simp[ea]);have i0:(0:Int)<=(t:Int):=(by omega);have i1:(t:Int)<(Q.length:Int):=(by omega);obtain⟨x0,x1⟩:=A.two;have CK:=hid (M3 k (k.O a).id wr.drew (HT.out.below hB.drew) on2);rw[Xe,Hq]at CK;unfold Aq.val at CK;have n4:No (.cells #[.slice k.ta k.tn k.tk,.slice k.oa k.on k.ok] 27):=⟨⟩;have Ad:Ah wr.drew w n4:=A;have kl:(Dh (fun i=>(k.O i).id) (fun i=>(k.O i).up) k.on a).length<=271:=by
    have:=Js (fun i=>(k.O i).id) (fun i=>(k.O i).up) k.on a;rw[Hq,List.length_map]at this;omega
   clear ea lies scc hl0;go_wp2_with fail
   go_region_held3(fun w'=>w'.cell? ⟨w,0,none⟩=some (.slice k.ta k.tn k.tk)/\w'.cell? ⟨w,1,none⟩=some (.slice k.oa k.on k.ok)/\w'.cell? ⟨sb,so+t,none⟩=some (.int .i64 (k.O a).id)) (first|go_keep|(simp only[*,and_self]))
    (first
      |(go_at_call 95;refine CK.out.mono ?_;rintro e w2 ⟨kv,rfl,o2,hb2⟩;have K2:=hid o2;clear o2;obtain⟨p0,p1⟩:=(Ad.below hb2).two;have p2:=(hb2.cell (p:=⟨sb,so+t,none⟩) slt).trans g1))
   have B2:Below w w w2:=Af hB.drew hb2;have hs1:w.heap.size+1<=wr.drew.heap.size:=A.lt;have A2:=Ad.below hb2;have S2:=hid (Ax.below (w:=wr.drew) HO.out hb2);have KA:Hid (∀g,kv.ownBlock=some g->some g≠some sb):=hid (fun g hg e=>by
    have h1:=(World.ownsRow.lt K2.out g hg).1;have h2:wr.drew.heap.size=wr.heap.size:=rfl;have h3:=Option.some.inj e;omega)
   obtain⟨ka,kc,ek⟩:=CF K2.out;subst ek;have NX:Hid (Ud (fun i=>(k.O i).id) (fun i=>(k.O i).up) k.on u (t+1) (Q++Dh (fun i=>(k.O i).id) (fun i=>(k.O i).up) k.on a)):=hid (HB.out.step HR.out H0.out HC.out HA.out);have ml:((Dh (fun i=>(k.O i).id) (fun i=>(k.O i).up) k.on a).map (fun i=>(k.O i).id)).length<=271:=(by rw[List.length_map];exact kl);have EQ:Hid ((Q.map (fun i=>(k.O i).id))++((Dh (fun i=>(k.O i).id) (fun i=>(k.O i).up) k.on a).map (fun i=>(k.O i).id))=(Q++Dh (fun i=>(k.O i).id) (fun i=>(k.O i).up) k.on a).map (fun i=>(k.O i).id)):=hid (by rw[List.map_append]);have LQ:Hid ((Q++Dh (fun i=>(k.O i).id) (fun i=>(k.O i).up) k.on a).length<=271):=hid (Nat.le_trans NX.out.len on2);generalize hKd:(Dh (fun i=>(k.O i).id) (fun i=>(k.O i).up) k.on a).map (fun i=>(k.O i).id)=Kd at *;clear hKd kl;have QL2:Hid ((Q.map (fun i=>(k.O i).id)).length=Q.length):=QL;have V0:Hid (Ax w2 (w.heap.size+1) (.slice (some ⟨sb,so,none⟩) Q.length sc) (Q.map (fun i=>(k.O i).id))):=S2;generalize hSd:Q.map (fun i=>(k.O i).id)=Sd at *;have SL:Sd.length<=271:=(by rw[QL2.out];exact hq);clear hSd p0 p1 p2 g1 x0 x1 CK Ad A hB HO hb2 S2 HB;go_wp2;go_loopw [5,8] (fun v i wr=>∃j:Nat,j<=Kd.length/\i= .int .i64 j/\Hid (Ax wr (w.heap.size+1) v (Sd++Kd.take j))/\Hid (Ax wr (w.heap.size+1) (.slice ka Kd.length kc) Kd)/\Hid (∀g,(Value.slice ka Kd.length kc).ownBlock=some g->some g≠v.ownBlock)/\Ah wr w n4/\Below w w wr) (fun _ i _=>Kd.length-(intOf i).toNat)
   case atStart=>exact⟨0,Nat.zero_le _,rfl,hid (by rw[List.take_zero,List.append_nil];exact V0.out),hid (K2.out.low hs1),KA,A2,B2⟩
   case round=>
    clear K2 KA A2 B2 V0;obtain⟨j,hj,rfl,HS,HKd,HAP,A,hB⟩:=hrel;by_cases hlt2:j<Kd.length
    ·obtain⟨y,ey⟩:∃y,Kd[j]? =some y:=⟨Kd[j],by simp[hlt2]⟩;obtain⟨kb,ko,rfl,_,kcc⟩:=Ax.lies HKd.out (by omega);have g1:wr.cell? ⟨kb,ko+j,none⟩=some (.int .i64 y):=kcc j _ (by simp[ey]);have i2:(j:Int)<(Kd.length:Int):=(by omega);have L1:=hid (Di.one (w:=wr) y);have n2:No (.cells #[.int .i64 y] 2):=⟨⟩;have OA:=hid (Ax.alloc HS.out n2);have KA2:=hid (Ax.alloc HKd.out n2);have AA:=A.alloc n2;have B1:Below w w (wr.alloc n2):=hB.alloc hB.size _;have s1:w.heap.size+1<=(wr.alloc n2).heap.size:=(by have:=A.lt;simp;omega);have lm:(Sd++Kd.take j).length+1<=4194304:=(by rw[List.length_append,List.length_take];omega);have ET:Hid (Sd++Kd.take j++[y]=Sd++Kd.take (j+1)):=hid (by rw[List.take_add_one,ey,List.append_assoc];rfl);have LE:Hid ((Sd++Kd.take (j+1)).length=Sd.length+(j+1)):=hid (by rw[List.length_append,List.length_take];omega);have FIN:Hid (∀(w3:World) (v3:Value),(wr.alloc n2).grownBy w3 u5.ownBlock->(v3.ownBlock=u5.ownBlock∨v3.ownBlock=some (wr.alloc n2).heap.size)->Ah w3 w (.cells #[.slice k.ta k.tn k.tk,.slice k.oa k.on k.ok] 27)/\Below w w w3/\Ax w3 (w.heap.size+1) (.slice (some ⟨kb,ko,none⟩) Kd.length kc) Kd/\∀g,(Value.slice (some ⟨kb,ko,none⟩) Kd.length kc).ownBlock=some g->some g≠v3.ownBlock):=hid (fun w3 v3 g3 h3=>by
      refine⟨AA.grown g3 (fun e=>by have:=(World.ownsRow.lt OA.out _ e.symm).1;omega),B1.trans (below_grown g3 B1.size (fun j hj=>by have:=(World.ownsRow.lt OA.out j hj).1;omega)),KA2.out.of_block (fun g hg=>g3.block g (World.ownsRow.lt KA2.out g hg).2 (HAP.out g hg)),fun g hg=>?_⟩;rcases h3 with h3|h3
      ·rw[h3];exact HAP.out g hg
      ·rw[h3];have:=(World.ownsRow.lt KA2.out g hg).2;simp only[ne_eq,Option.some.injEq];omega)
     clear kcc ey HS HKd;go_wp2_with(refine Dv _ rfl _ _ rfl (w.heap.size+1) u5 (Sd++Kd.take j) rfl OA.out _ 1 1 [y] rfl rfl L1.out lm s1 ?_;intro a3 c3 w3 o3 g3 v3)
     rw[ET.out,LE.out]at o3 v3;obtain⟨f1,f2,f3,f4⟩:=FIN.out w3 _ g3 v3;exact⟨⟨j+1,by omega,by go_num,hid o3,hid f3,hid f4,f1,f2⟩,by simp[intOf];omega⟩
    ·have i2:¬(j:Int)<(Kd.length:Int):=(by omega);have e:j=Kd.length:=(by omega);have HS2:Hid (Ax wr (w.heap.size+1) u5 ((Q++Dh (fun i=>(k.O i).id) (fun i=>(k.O i).up) k.on a).map (fun i=>(k.O i).id))):=hid (by
      have:=HS.out;rw[e,List.take_length,EQ.out]at this;exact this)
     clear HS e HKd HAP;go_wp2;exact⟨⟨t+1,_,by rw[List.length_append];omega,LQ.out,by go_num,NX,HS2,A,hB⟩,by simp[intOf];omega⟩
  ·have e:t=Q.length:=(by omega);have i1:¬(t:Int)<(Q.length:Int):=(by omega);have PUT:Hid (Dy (Q.map (fun i=>(k.O i).id))=Ct ((EJ (fun i=>(k.O i).id) (fun i=>(k.O i).up) k.on k.on u).map (fun i=>(k.O i).id))):=hid (XZ HR.out H0.out hu HC.out (by rw[<-e];exact HB.out));clear HB e;have ZL:Hid ((Q.map (fun i=>(k.O i).id)).length<=271):=hid (by rw[QL.out];exact hq);have OS:Hid (Ax wr (w.heap.size+1) (.slice sa (Q.map (fun i=>(k.O i).id)).length sc) (Q.map (fun i=>(k.O i).id))):=hid (by rw[QL.out];exact HO.out);have QL2:Hid ((Q.map (fun i=>(k.O i).id)).length=Q.length):=QL;clear HO QL;generalize hSd:Q.map (fun i=>(k.O i).id)=Sd at *;clear hSd;rw[<-QL2.out]at i1;rw[<-QL2.out];have tl:Sd.length<=271:=ZL.out;have OM:=hid (Ax.made wr (w.heap.size+1) (by have:=A.lt;omega));have B1:Below w w (wr.alloc (.cells #[] 2)):=hB.alloc hB.size _;have OS1:=hid (Ax.alloc OS.out (.cells #[] 2));go_wp2;generalize hWx:wr.alloc (.cells #[] 2)=Wx at *;go_loopw [9,10] (fun v i wr'=>∃(q:Nat) (A':Addr) (c':Nat),q<=Sd.length/\i= .int .i64 q/\v= .slice (some A') (Dy (Sd.take q)).length c'/\(Dy (Sd.take q)).length<=c'/\c'<=maxLen/\Hid (Ax wr' (w.heap.size+1) (.slice (some A') (Dy (Sd.take q)).length c') (Dy (Sd.take q)))/\Hid (Ax wr' (w.heap.size+1) (.slice sa Sd.length sc) Sd)/\Below w w wr') (fun _ i _=>Sd.length-(intOf i).toNat)
   case atStart=>exact⟨0,_,0,Nat.zero_le _,rfl,rfl,Nat.le_refl _,by unfold maxLen;omega,OM,OS1,B1⟩
   case round=>
    obtain⟨q,A',c',hqs,rfl,rfl,hc1,hc2,HP,HQ,hB'⟩:=hrel;clear OM OS1 B1;by_cases hlt2:q<Sd.length
    ·obtain⟨y,ey⟩:∃y,Sd[q]? =some y:=⟨Sd[q],by simp[hlt2]⟩;obtain⟨kb,ko,rfl,_,kcc⟩:=Ax.lies HQ.out (by omega);have g1:wr.cell? ⟨kb,ko+q,none⟩=some (.int .i64 y):=kcc q _ (by simp[ey]);have i2:(q:Int)<(Sd.length:Int):=(by omega);have hln:(Dy (Sd.take q)).length<=1048576:=(by have:=SF (Sd.take q);rw[List.length_take]at this;omega);have ET:Hid (Dx (Dy (Sd.take q)) y=Dy (Sd.take (q+1))):=hid (by
      rw[List.take_add_one,ey];unfold Dy;rw[List.foldl_append];rfl)
     have C1:=hid (Oo A' c' (Dy (Sd.take q)) y wr hln hc1 hc2 (Ax.lies HP.out));rw[ET.out]at C1;have PP:Hid (0<(Dy (Sd.take (q+1))).length):=hid (by rw[<-ET.out];exact WZ _ _);clear kcc ey ET;go_wp2_with fail
     refine C1.out.mono ?_;rintro e w3 ⟨va,vc,rfl,o3,hb3⟩;obtain⟨g,rfl,z1,z2⟩:=o3.some_ PP.out;have HQ3:=hid (HQ.out.below hb3);have B3:=Af hB' hb3;have O3:=hid (o3.low (B':=w.heap.size+1) (by have:=World.ownsRow.lt HP.out A'.block rfl;omega));clear o3 hb3 g1 C1 HP HQ hc1 hc2;go_wp2;exact⟨⟨q+1,_,vc,by omega,by go_num,rfl,z1,z2,O3,HQ3,B3⟩,by simp[intOf];omega⟩
    ·have i2:¬(q:Int)<(Sd.length:Int):=(by omega);have e:q=Sd.length:=(by omega);have HP2:Hid (Ax wr w (.slice (some A') (Dy (Sd.take q)).length c') (Ct ((EJ (fun i=>(k.O i).id) (fun i=>(k.O i).up) k.on k.on u).map (fun i=>(k.O i).id)))):=hid (by
      rw[<-PUT.out];have h:=HP.out.low (B':=w.heap.size) (by omega);have e2:Sd.take q=Sd:=(by rw[e,List.take_length]);rw[e2]at h ⊢;exact h)
     clear HP e PUT;go_wp2;go_ret;exact⟨_,rfl,HP2.out,hB'⟩
def Sy(k:Aq)(x:Int):List Int:=if AZ k=true then(match Bg (fun i=>(k.O i).id) k.on x with
 |some u=>Ct ((EJ (fun i=>(k.O i).id) (fun i=>(k.O i).up) k.on k.on u).map (fun i=>(k.O i).id))
 |none=>[])else[]
theorem Wh{k:Aq}(h:AZ k=true):∀j,j<k.on->(fun i=>(k.O i).id) j≠(fun i=>(k.O i).up) 0:=fun j hj=>by
 have ho:=(BD h).2.1;have:=D4 ho j hj;have:=(Cg ho).2.2;dsimp only;omega
theorem Ks{k:Aq}(h:AZ k=true){u:Nat}(hu:u<k.on):GM (fun i=>(k.O i).id) (fun i=>(k.O i).up) k.on u:=by
 obtain⟨m,_,e⟩:=Fx.1 (BD h).2.2.2.2 u hu;exact Nk e
theorem Te(k:Aq)(x:Int):(Sy k x).length<=271:=by
 unfold Sy;split
 ·rename_i h;obtain⟨_,h2,_⟩:=Bv (BD h).2.1;split
  ·rename_i u hu;obtain⟨hu,_⟩:=AE hu;rw[Gd,List.length_map];have:=Gc (Ha (Bt (BD h).2.1) (Wh h) (f:=k.on) hu (Ks h hu)) (fun x hx=>((DO (Bt (BD h).2.1) (Wh h) hu).1 hx).1);omega
  ·simp
 ·simp
end Go.Proofs.YtphddbnadcjhgaaGreatDoor
