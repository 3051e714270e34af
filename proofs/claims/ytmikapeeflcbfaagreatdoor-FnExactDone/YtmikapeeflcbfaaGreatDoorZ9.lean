import Derived.Test.YtmikapeeflcbfaaGreatDoorZ8
set_option maxRecDepth 100000
set_option maxHeartbeats 16000000
namespace Go.Proofs.YtmikapeeflcbfaaGreatDoor
open Go Go.RowKit Go.Deep Go.Maps Go.BigFrame Go.Shelf Go.Proofs.Tryz
def JO(lo:List Ab):Prop:=∀x∈lo,x.jA.tight
theorem JO.add{lo:List Ab}{u:Ab}(h:JO lo)(hu:u.jA.tight):JO (lo++[u]):=fun x hx=>by
 rcases List.mem_append.1 hx with hx|hx
 ·exact h x hx
 ·rw[List.mem_singleton.1 hx];exact hu
theorem GY(k:Ar)(w:World)(hk:k.at w)(hs:k.small):
 Calls prog 26 #[k.val] w fun e w'=>∃(lt:List Ac) (lo:List Ab) (ta oa:Option Addr) (ca co:Nat),e= .returned (.agg #[.slice ta lt.length ca,.slice oa lo.length co])/\Cg w' w (.slice ta lt.length ca) (.slice oa lo.length co) lt lo/\Apart lt lo/\JO lo/\k.same (DW ta ca oa co lt lo)/\Below w w w':=by
 have HT:=hid hk.2.2.1;have HO:=hid hk.2.2.2;have SMALL:=hid hs;obtain⟨ta0,tn,tk,T,oa0,onn,okk,O⟩:=k;simp only[Ar.small]at HT HO SMALL;have n4:No (.cells #[.slice none 0 0,.slice none 0 0] 36):=⟨⟩;have n5:No (.cells #[.slice ta0 tn tk,.slice oa0 onn okk] 36):=⟨⟩;have n8:Nw (((w.alloc n5).alloc n4).alloc n4):=⟨⟩;have b0:Below w w n8:=(((Below.refl _ w).alloc (Nat.le_refl _) _).alloc (by simp) _).alloc (by simp;omega) _;have S0:Hid (Jm w (Ar.mk ta0 tn tk T oa0 onn okk O) n8 (.slice none 0 0) (.slice none 0 0) [] []):=hid ⟨⟨Dt.nil _ _,AI.nil _ _,fun x hx=>absurd hx List.not_mem_nil,fun x hx=>absurd hx List.not_mem_nil,fun x hx=>absurd hx List.not_mem_nil,fun x hx=>absurd hx List.not_mem_nil⟩,fun i hi=>absurd hi (Nat.not_lt_zero i),fun i hi=>absurd hi (Nat.not_lt_zero i),((Ah.new w n5).alloc _).alloc _,(by have:=(Ah.new (w.alloc n5) n4).alloc n4;simpa using this),(by have:=Ah.new ((w.alloc n5).alloc n4) n4;simpa using this),b0⟩;clear hk hs b0;unfold Ar.val;go_enter func26,ntmps26
 go_wp2;go_loopw [11] (fun i wr=>∃(lt:List Ac) (ta:Option Addr) (ca:Nat),lt.length<=tn/\i= .int .i64 lt.length/\Jm w (Ar.mk ta0 tn tk T oa0 onn okk O) wr (.slice ta lt.length ca) (.slice none 0 0) lt []/\Apart lt []) (fun i _=>tn-(intOf i).toNat)
 case atStart=>exact⟨[],none,0,Nat.zero_le _,rfl,S0,Apart.nil⟩
 case round=>
  clear S0;obtain⟨lt,ta,ca,hl,rfl,st,ap⟩:=hrel;have S1:=hid st;have AP1:=hid ap;clear st ap;by_cases hlt:lt.length<tn
  ·have i1:(lt.length:Int)<(tn:Int):=(by omega);have i0:(0:Int)<=(lt.length:Int):=(by omega);obtain⟨b,off,ea,hbl,hc⟩:=HT.out (by omega);subst ea;have n3:Na #[.int .i64 (T lt.length).id,.int .i64 (T lt.length).b1,.slice (T lt.length).c1.a (T lt.length).c1.n (T lt.length).c1.k,.int .i64 (T lt.length).b2,.slice (T lt.length).c2.a (T lt.length).c2.n (T lt.length).c2.k,.slice (T lt.length).own.a (T lt.length).own.n (T lt.length).own.k,.int .i64 (T lt.length).made]:=⟨⟩;have n6:Nw (wr.alloc (.cells n3 86)):=⟨⟩;have bd:Below wr wr (n6:World).drew:=((Below.refl _ wr).alloc (Nat.le_refl _) (.cells n3 86)).drew;have SD:=hid (S1.out.below bd);have CC:Dz wr b (off+lt.length*7) (T lt.length):=(hc lt.length hlt).1.below hbl S1.out.be;have q0:wr.cell? ⟨b,off+lt.length*7,none⟩=some (.int .i64 (T lt.length).id):=CC.c0;have q1:wr.cell? ⟨b,off+lt.length*7+1,none⟩=some (.int .i64 (T lt.length).b1):=CC.c1;have q2:wr.cell? ⟨b,off+lt.length*7+2,none⟩=some (.slice (T lt.length).c1.a (T lt.length).c1.n (T lt.length).c1.k):=CC.c2;have q3:wr.cell? ⟨b,off+lt.length*7+3,none⟩=some (.int .i64 (T lt.length).b2):=CC.c3;have q4:wr.cell? ⟨b,off+lt.length*7+4,none⟩=some (.slice (T lt.length).c2.a (T lt.length).c2.n (T lt.length).c2.k):=CC.c4;have q5:wr.cell? ⟨b,off+lt.length*7+5,none⟩=some (.slice (T lt.length).own.a (T lt.length).own.n (T lt.length).own.k):=CC.c5;have q6:wr.cell? ⟨b,off+lt.length*7+6,none⟩=some (.int .i64 (T lt.length).made):=CC.c6;have hbw:b<wr.heap.size:=Nat.lt_of_lt_of_le hbl S1.out.be.size;obtain⟨a0,a1⟩:=S1.out.a.two;obtain⟨x0,x1⟩:=SD.out.a.two;obtain⟨y0,y1⟩:=SD.out.o.two;simp only at a0 a1 x0 x1;have CP:Hid (Calls prog 64 #[.agg n3] (n6:World).drew fun e w'=>∃v,e= .returned v/\(∃u:Ac,v= .agg #[u.id,u.b1,.slice u.c1.a u.c1.n u.c1.k,u.b2,.slice u.c2.a u.c2.n u.c2.k,.slice u.own.a u.own.n u.own.k,u.made]/\(T lt.length).same u/\u.new (n6:World).drew.heap.size w'/\(u.own.n<=u.own.k/\u.own.k<=maxLen)/\u.cb.Nodup/\Below (n6:World).drew.heap.size (n6:World).drew w')):=hid ((KH (T lt.length) (n6:World).drew ((hc lt.length hlt).2.below SD.out.be) (SMALL.out.1.2 lt.length hlt)).mono fun _ _ ⟨u,e1,h1,h2,h3,h5,h4⟩=>⟨_,e1,u,rfl,h1,h2,h3,h5,h4⟩);have EG:Hid (∀args w,(callFunc 64 args).run prog w= .ok (.enter 64 args) w):=hid (enters_of func64 (by kernel_rfl) rfl);have BX:=hid (show Ah (n6:World).drew wr (.cells n3 86) from Ah.new wr (.cells n3 86));obtain⟨p0,p1,p2,p3,p4,p5,p6⟩:=BX.out.seven;have lm:lt.length<=1048576:=(by have:=SMALL.out.1.1;omega);clear hc CC bd;have sz0:=S1.out.be.size;go_wp2_with fail
   go_region_law(first
    |(refine Dy (by rfl) 64 _ _ (by rfl) EG _ (by rfl) _ CP ?_;rintro v w5 ⟨u,rfl,su,nu,cu,du,b5⟩;have CU:=hid cu;have AU:=hid (AP1.out.addT SD.out.st nu (Nat.le_refl _) du);have S5:=hid (SD.out.below b5);have S5a:=hid ((SD.out.below b5).below ((Below.refl _ w5).alloc (Nat.le_refl _) (.cells #[u.id,u.b1,.slice u.c1.a u.c1.n u.c1.k,u.b2,.slice u.c2.a u.c2.n u.c2.k,.slice u.own.a u.own.n u.own.k,u.made] 86)));have N5:=hid ((nu.low SD.out.be.size).keeps (Cp.of_below ((Below.refl _ w5).alloc (Nat.le_refl _) (.cells #[u.id,u.b1,.slice u.c1.a u.c1.n u.c1.k,u.b2,.slice u.c2.a u.c2.n u.c2.k,.slice u.own.a u.own.n u.own.k,u.made] 86))).l);have SU:=hid su;have ONE:Hid (Bj (w5.alloc (.cells #[u.id,u.b1,.slice u.c1.a u.c1.n u.c1.k,u.b2,.slice u.c2.a u.c2.n u.c2.k,.slice u.own.a u.own.n u.own.k,u.made] 86)) (some ⟨w5,0,none⟩) 1 (BN [u])):=hid (Dt.one w5 u);have s5:w.heap.size<=(w5.alloc (.cells #[u.id,u.b1,.slice u.c1.a u.c1.n u.c1.k,u.b2,.slice u.c2.a u.c2.n u.c2.k,.slice u.own.a u.own.n u.own.k,u.made] 86)).heap.size:=S5a.out.be.size;obtain⟨m0,m1⟩:=S5.out.o.two;obtain⟨n0,n1⟩:=S5a.out.o.two;clear su nu b5 cu du)
    |(refine Hy (by rfl) _ _ (by rfl) w (.slice ta lt.length ca) lt (by rfl) S5a.out.st.t _ _ u (by rfl) ONE lm s5 ?_;intro a7 c7 w7 o7 g7;have AD:=S5a.out.addT o7 g7 N5 SU CU.out;have S7:=hid AD.2;obtain⟨z0,z1⟩:=AD.1.two;have zf:=AD.1.jC;clear AD o7 g7))
   all_goals(
    clear p0 p1 p2 p3 p4 p5 p6 m0 m1 n0 n1 x0 x1 y0 y1 q0 q1 q2 q3 q4 q5 q6 a0 a1;go_wp2;go_roundw;case rel=>exact⟨lt++[u],a7,c7,by simp;omega,by first|go_num|(congr 1;simp),by rw[show(lt++[u]).length=lt.length+1 from by simp];exact S7.out,AU⟩
    case measure=>simp[intOf];omega)
  ·have i1:¬(lt.length:Int)<(tn:Int):=(by omega);have ET:Hid (lt.length=tn):=hid (by omega);obtain⟨a0,a1⟩:=S1.out.a.two;simp only at a0 a1;have ST:=S1;have APT:=AP1;clear S1 AP1;go_wp2;clear a0 a1 i1 hlt hl;go_loopw [26] (fun i wr=>∃(lo:List Ab) (oa:Option Addr) (co:Nat),lo.length<=onn/\i= .int .i64 lo.length/\Jm w (Ar.mk ta0 tn tk T oa0 onn okk O) wr (.slice ta lt.length ca) (.slice oa lo.length co) lt lo/\Apart lt lo/\JO lo) (fun i _=>onn-(intOf i).toNat)
   case atStart=>exact⟨[],none,0,Nat.zero_le _,rfl,ST,APT,fun x hx=>by cases hx⟩
   case round=>
    clear ST APT;obtain⟨lo,oa,co,hl,rfl,st,ap,ti⟩:=hrel;have TI1:=hid ti;clear ti;have S1:=hid st;have AP1:=hid ap;clear st ap;by_cases hlt:lo.length<onn
    ·have i1:(lo.length:Int)<(onn:Int):=(by omega);have i0:(0:Int)<=(lo.length:Int):=(by omega);obtain⟨b,off,ea,hbl,hc⟩:=HO.out (by omega);subst ea;have n2:Na #[.int .i64 (O lo.length).id,.int .i64 (O lo.length).kind,.int .i64 (O lo.length).up,.int .i64 (O lo.length).b1,.slice (O lo.length).c1.a (O lo.length).c1.n (O lo.length).c1.k,.string (O lo.length).data,.slice (O lo.length).jA.a (O lo.length).jA.n (O lo.length).jA.k,.slice (O lo.length).own.a (O lo.length).own.n (O lo.length).own.k,.int .i64 (O lo.length).b2,.slice (O lo.length).c2.a (O lo.length).c2.n (O lo.length).c2.k]:=⟨⟩;have n7:Nw (wr.alloc (.cells n2 88)):=⟨⟩;have bd:Below wr wr (n7:World).drew:=((Below.refl _ wr).alloc (Nat.le_refl _) (.cells n2 88)).drew;have SD:=hid (S1.out.below bd);have CC:Ci wr b (off+lo.length*10) (O lo.length):=(hc lo.length hlt).1.below hbl S1.out.be;have q0:wr.cell? ⟨b,off+lo.length*10,none⟩=some (.int .i64 (O lo.length).id):=CC.c0;have q1:wr.cell? ⟨b,off+lo.length*10+1,none⟩=some (.int .i64 (O lo.length).kind):=CC.c1;have q2:wr.cell? ⟨b,off+lo.length*10+2,none⟩=some (.int .i64 (O lo.length).up):=CC.c2;have q3:wr.cell? ⟨b,off+lo.length*10+3,none⟩=some (.int .i64 (O lo.length).b1):=CC.c3;have q4:wr.cell? ⟨b,off+lo.length*10+4,none⟩=some (.slice (O lo.length).c1.a (O lo.length).c1.n (O lo.length).c1.k):=CC.c4;have q5:wr.cell? ⟨b,off+lo.length*10+5,none⟩=some (.string (O lo.length).data):=CC.c5;have q6:wr.cell? ⟨b,off+lo.length*10+6,none⟩=some (.slice (O lo.length).jA.a (O lo.length).jA.n (O lo.length).jA.k):=CC.c6;have q7:wr.cell? ⟨b,off+lo.length*10+7,none⟩=some (.slice (O lo.length).own.a (O lo.length).own.n (O lo.length).own.k):=CC.c7;have q8:wr.cell? ⟨b,off+lo.length*10+8,none⟩=some (.int .i64 (O lo.length).b2):=CC.c8;have q9:wr.cell? ⟨b,off+lo.length*10+9,none⟩=some (.slice (O lo.length).c2.a (O lo.length).c2.n (O lo.length).c2.k):=CC.c9;have hbw:b<wr.heap.size:=Nat.lt_of_lt_of_le hbl S1.out.be.size;obtain⟨a0,a1⟩:=S1.out.a.two;obtain⟨x0,x1⟩:=SD.out.a.two;obtain⟨y0,y1⟩:=SD.out.o.two;simp only at a0 a1 x0 x1;have CP:Hid (Calls prog 65 #[.agg n2] (n7:World).drew fun e w'=>∃v,e= .returned v/\(∃u:Ab,v= .agg #[u.id,u.kind,u.up,u.b1,.slice u.c1.a u.c1.n u.c1.k,.string u.data,.slice u.jA.a u.jA.n u.jA.k,.slice u.own.a u.own.n u.own.k,u.b2,.slice u.c2.a u.c2.n u.c2.k]/\(O lo.length).same u/\u.new (n7:World).drew.heap.size w'/\(u.jA.n<=u.jA.k/\u.jA.k<=maxLen)/\(u.cb.Nodup/\u.jA.tight)/\Below (n7:World).drew.heap.size (n7:World).drew w')):=hid ((Kf (O lo.length) (n7:World).drew ((hc lo.length hlt).2.below SD.out.be) (SMALL.out.2.2 lo.length hlt)).mono fun _ _ ⟨u,e1,h1,h2,h3,_,h5,h4⟩=>⟨_,e1,u,rfl,h1,h2,h3,h5,h4⟩);have EG:Hid (∀args w,(callFunc 65 args).run prog w= .ok (.enter 65 args) w):=hid (enters_of func65 (by kernel_rfl) rfl);have BX:=hid (show Ah (n7:World).drew wr (.cells n2 88) from Ah.new wr (.cells n2 88));obtain⟨p0,p1,p2,p3,p4,p5,p6,p7,p8,p9⟩:=BX.out.jE;have lm:lo.length<=1048576:=(by have:=SMALL.out.2.1;omega);clear hc CC bd;have sz0:=S1.out.be.size;go_wp2_with fail
     go_region_law(first
      |(refine Dy (by rfl) 65 _ _ (by rfl) EG _ (by rfl) _ CP ?_;rintro v w5 ⟨u,rfl,su,nu,cu,du,b5⟩;have CU:=hid cu;have AU:=hid (AP1.out.addO SD.out.st nu (Nat.le_refl _) du.1);have TU:=hid (TI1.out.add du.2);have S5:=hid (SD.out.below b5);have S5a:=hid ((SD.out.below b5).below ((Below.refl _ w5).alloc (Nat.le_refl _) (.cells #[u.id,u.kind,u.up,u.b1,.slice u.c1.a u.c1.n u.c1.k,.string u.data,.slice u.jA.a u.jA.n u.jA.k,.slice u.own.a u.own.n u.own.k,u.b2,.slice u.c2.a u.c2.n u.c2.k] 88)));have N5:=hid ((nu.low SD.out.be.size).keeps (Cp.of_below ((Below.refl _ w5).alloc (Nat.le_refl _) (.cells #[u.id,u.kind,u.up,u.b1,.slice u.c1.a u.c1.n u.c1.k,.string u.data,.slice u.jA.a u.jA.n u.jA.k,.slice u.own.a u.own.n u.own.k,u.b2,.slice u.c2.a u.c2.n u.c2.k] 88))).l);have SU:=hid su;have ONE:Hid (Bj (w5.alloc (.cells #[u.id,u.kind,u.up,u.b1,.slice u.c1.a u.c1.n u.c1.k,.string u.data,.slice u.jA.a u.jA.n u.jA.k,.slice u.own.a u.own.n u.own.k,u.b2,.slice u.c2.a u.c2.n u.c2.k] 88)) (some ⟨w5,0,none⟩) 1 (Aw [u])):=hid (AI.one w5 u);have s5:w.heap.size<=(w5.alloc (.cells #[u.id,u.kind,u.up,u.b1,.slice u.c1.a u.c1.n u.c1.k,.string u.data,.slice u.jA.a u.jA.n u.jA.k,.slice u.own.a u.own.n u.own.k,u.b2,.slice u.c2.a u.c2.n u.c2.k] 88)).heap.size:=S5a.out.be.size;obtain⟨m0,m1⟩:=S5.out.o.two;obtain⟨n0,n1⟩:=S5a.out.o.two;clear su nu b5 cu du)
      |(refine Fu (by rfl) _ _ (by rfl) w (.slice oa lo.length co) lo (by rfl) S5a.out.st.o _ _ u (by rfl) ONE lm s5 ?_;intro a7 c7 w7 o7 g7;have AD:=S5a.out.addO o7 g7 N5 SU CU.out;have S7:=hid AD.2;obtain⟨z0,z1⟩:=AD.1.two;have zf:=AD.1.jC;clear AD o7 g7))
     all_goals(
      clear p0 p1 p2 p3 p4 p5 p6 p7 p8 p9 m0 m1 n0 n1 x0 x1 y0 y1 q0 q1 q2 q3 q4 q5 q6 q7 q8 q9 a0 a1;go_wp2;go_roundw;case rel=>exact⟨lo++[u],a7,c7,by simp;omega,by first|go_num|(congr 1;simp),by rw[show(lo++[u]).length=lo.length+1 from by simp];exact S7.out,AU,TU⟩
      case measure=>simp[intOf];omega)
    ·have el:lo.length=onn:=(by omega);have i1:¬(lo.length:Int)<(onn:Int):=(by omega);have EL:=hid el;obtain⟨a0,a1⟩:=S1.out.a.two;simp only at a0 a1;obtain⟨y0,y1⟩:=S1.out.o.two;obtain⟨r0,r1⟩:=S1.out.r.two;have rf:=S1.out.r.jC;clear el;go_wp2;refine bodyPost_ret (GB _ _ (w.heap.size+1) 2 _ _ Tryz.results26 ((S1.out.r.jB (i:=0) _).jB (i:=1) _) rfl) rfl ⟨lt,lo,ta,oa,ca,co,rfl,(S1.out.st.set S1.out.r (.inl rfl) _).set (S1.out.r.jB (i:=0) _) (.inl rfl) _,AP1,TI1,⟨ET,fun j hj=>S1.out.st1 j (by rw[ET.out];exact hj),EL,fun j hj=>S1.out.so1 j (by rw[EL.out];exact hj)⟩,?_⟩;exact(S1.out.be.setCell (by dsimp only;omega) _).setCell (by dsimp only;omega) _
def Be(o:Ab):List Ab->List Ab
 |[]=>[o]
 |x::r=>if o.id<x.id then o::x::r else x::Be o r
theorem Pf{o:Ab}:∀{a b:List Ab},(∃y∈a,o.id<y.id)->Be o (a++b)=Be o a++b
 |[],b,h=>by obtain⟨y,hy,_⟩:=h;exact absurd hy List.not_mem_nil
 |x::a,b,h=>by
  show Be o (x::(a++b))=Be o (x::a)++b;unfold Be;split
  ·rfl
  ·rename_i hx;obtain⟨y,hy,hl⟩:=h;rcases List.mem_cons.1 hy with rfl|hy
   ·exact absurd hl hx
   ·rw[Pf ⟨y,hy,hl⟩];rfl
theorem Ko{o:Ab}:∀{a b:List Ab},(∀y∈a,¬o.id<y.id)->Be o (a++b)=a++Be o b
 |[],b,_=>rfl
 |x::a,b,h=>by
  show Be o (x::(a++b))=_;rw[Be,if_neg (h x List.mem_cons_self),Ko (fun y hy=>h y (List.mem_cons_of_mem _ hy))];rfl
theorem Jy{o:Ab}:∀{a:List Ab},(Be o a).length=a.length+1
 |[]=>rfl
 |x::a=>by
  unfold Be;split
  ·simp
  ·rw[List.length_cons,Jy,List.length_cons]
theorem JY{o x:Ab}:∀{a:List Ab},x∈Be o a->x=o∨x∈a
 |[],h=> .inl (List.mem_singleton.1 h)
 |y::a,h=>by
  unfold Be at h;split at h
  ·rcases List.mem_cons.1 h with h|h
   ·exact .inl h
   ·exact .inr h
  ·rcases List.mem_cons.1 h with h|h
   ·exact .inr (h▸List.mem_cons_self)
   ·rcases JY h with h|h
    ·exact .inl h
    ·exact .inr (List.mem_cons_of_mem _ h)
def Ar.oL(k:Ar)(j:Nat):List Ab:=(List.range j).map k.O
theorem IQ(k:Ar)(j:Nat):k.oL (j+1)=k.oL j++[k.O j]:=by unfold Ar.oL;rw[List.range_succ,List.map_append];rfl
theorem Xm(k:Ar)(j:Nat):(k.oL j).length=j:=by simp[Ar.oL]
def KU(k:Ar)(o:Ab)(j:Nat):Bool->List Ab->Prop
 |false,l=>l=k.oL j/\∀y∈k.oL j,¬o.id<y.id
 |true,l=>l=Be o (k.oL j)/\∃y∈k.oL j,o.id<y.id
theorem Ut{k:Ar}{o:Ab}{j:Nat}{l:List Ab}(h:KU k o j false l)(hx:¬o.id<(k.O j).id):KU k o (j+1) false (l++[k.O j]):=by
 refine⟨by rw[IQ,h.1],fun y hy=>?_⟩;rw[IQ]at hy;rcases List.mem_append.1 hy with hy|hy
 ·exact h.2 y hy
 ·rw[List.mem_singleton.1 hy];exact hx
theorem US{k:Ar}{o:Ab}{j:Nat}{l:List Ab}(h:KU k o j false l)(hx:o.id<(k.O j).id):KU k o (j+1) true (l++[o]++[k.O j]):=by
 refine⟨?_,k.O j,by rw[IQ];exact List.mem_append_right _ List.mem_cons_self,hx⟩;rw[IQ,Ko h.2,h.1,Be,if_pos hx,List.append_assoc];rfl
theorem Um{k:Ar}{o:Ab}{j:Nat}{l:List Ab}(h:KU k o j true l):KU k o (j+1) true (l++[k.O j]):=by
 obtain⟨h1,y,hy,hl⟩:=h;refine⟨by rw[IQ,Pf ⟨y,hy,hl⟩,h1],y,by rw[IQ];exact List.mem_append_left _ hy,hl⟩
theorem Wz{k:Ar}{o:Ab}{j:Nat}:∀{b:Bool}{l:List Ab},KU k o j b l->l.length<=j+1
 |false,_,h=>by rw[h.1,Xm];omega
 |true,_,h=>by rw[h.1,Jy,Xm];omega
theorem Wo(k:Ar)(o:Ab)(w:World)(hk:k.at w)(hn:k.on<=1048000):
 Calls prog 90 #[k.val,.agg #[o.id,o.kind,o.up,o.b1,.slice o.c1.a o.c1.n o.c1.k,.string o.data,.slice o.jA.a o.jA.n o.jA.k,.slice o.own.a o.own.n o.own.k,o.b2,.slice o.c2.a o.c2.n o.c2.k]] w fun e w'=>∃(oa:Option Addr) (co:Nat),e= .returned (.agg #[.slice k.ta k.tn k.tk,.slice oa (Be o (k.oL k.on)).length co])/\AI w' w (.slice oa (Be o (k.oL k.on)).length co) (Be o (k.oL k.on))/\Below w w w':=by
 have n4:No (.cells #[o.id,o.kind,o.up,o.b1,.slice o.c1.a o.c1.n o.c1.k,.string o.data,.slice o.jA.a o.jA.n o.jA.k,.slice o.own.a o.own.n o.own.k,o.b2,.slice o.c2.a o.c2.n o.c2.k] 88):=⟨⟩;have n7:No (.cells #[.slice k.ta k.tn k.tk,.slice k.oa k.on k.ok] 36):=⟨⟩;have n8:No (.cells #[.slice none 0 0,.slice none 0 0] 36):=⟨⟩;have n1:Nw (((w.alloc n7).alloc n4).alloc n8):=⟨⟩;have b0:Below w w n1:=(((Below.refl _ w).alloc (Nat.le_refl _) _).alloc (by simp) _).alloc (by simp;omega) _;have A0:Ah n1 w n7:=((Ah.new w n7).alloc _).alloc _;have P0:Ah n1 (w.heap.size+1) n4:=by have:=(Ah.new (w.alloc n7) n4).alloc n8;simpa using this
 have R0:Ah n1 (w.heap.size+1+1) n8:=by have:=Ah.new ((w.alloc n7).alloc n4) n8;simpa using this
 have HO:=hid (hk.2.2.2.below b0);have HB:=hid b0;have lV:Hid ((n1:World).heap.size=w.heap.size+3):=hid (by simp);have E0:Hid (AI ((n1:World).alloc (.cells #[] 88)) (n1:World).heap.size (.slice (some ⟨w.heap.size+1+1+1,0,none⟩) 0 0) []):=hid (by
  have h:=AI.made n1 (n1:World).heap.size (Nat.le_refl _);rw[show(some ⟨(n1:World).heap.size,0,none⟩:Option Addr)=some ⟨w.heap.size+1+1+1,0,none⟩ from by simp]at h;exact h)
 have BE:=hid ((Below.refl _ n1).alloc (Nat.le_refl _) (.cells #[] 88));have HA:=hid A0;have HP:=hid P0;have HR:=hid R0;unfold Ar.val;clear hk b0 A0 P0 R0;go_enter func90,ntmps90
 go_wp2;generalize (n1:World)=V at *;go_loopw [5,6,7] (fun v d i wr=>∃(j:Nat) (b:Bool) (l:List Ab) (la:Option Addr) (lc:Nat),j<=k.on/\i= .int .i64 j/\d= .bool b/\v= .slice la l.length lc/\KU k o j b l/\AI wr V (.slice la l.length lc) l/\Below V V wr) (fun _ _ i _=>k.on-(intOf i).toNat)
 case atStart=>exact⟨0,false,[],_,0,Nat.zero_le _,rfl,rfl,rfl,⟨rfl,fun y hy=>absurd hy List.not_mem_nil⟩,E0,BE⟩
 case round=>
  clear E0 BE;obtain⟨j,d,l,la,lc,hj,rfl,rfl,rfl,ad,ow,be⟩:=hrel;have AT:=hid ad;have OW:=hid ow;have BB:=hid be;have ll:l.length<=1048575:=by have:=Wz ad;omega
  have ll2:l.length+1<=1048576:=by omega
  clear ad ow be;obtain⟨a0,a1⟩:=(HA.out.below BB).two;have PB:=hid (HP.out.below BB);obtain⟨o0,o1,o2,o3,o4,o5,o6,o7,o8,o9⟩:=PB.out.jE;by_cases hlt:j<k.on
  ·have i1:(j:Int)<(k.on:Int):=(by omega);have i0:(0:Int)<=(j:Int):=(by omega);obtain⟨b,off,ea,hbl,hc⟩:=HO.out (by omega);have CC:Ci wr b (off+j*10) (k.O j):=(hc j hlt).1.below hbl BB.out;have q0:wr.cell? ⟨b,off+j*10,none⟩=some (.int .i64 (k.O j).id):=CC.c0;have q1:wr.cell? ⟨b,off+j*10+1,none⟩=some (.int .i64 (k.O j).kind):=CC.c1;have q2:wr.cell? ⟨b,off+j*10+2,none⟩=some (.int .i64 (k.O j).up):=CC.c2;have q3:wr.cell? ⟨b,off+j*10+3,none⟩=some (.int .i64 (k.O j).b1):=CC.c3;have q4:wr.cell? ⟨b,off+j*10+4,none⟩=some (.slice (k.O j).c1.a (k.O j).c1.n (k.O j).c1.k):=CC.c4;have q5:wr.cell? ⟨b,off+j*10+5,none⟩=some (.string (k.O j).data):=CC.c5;have q6:wr.cell? ⟨b,off+j*10+6,none⟩=some (.slice (k.O j).jA.a (k.O j).jA.n (k.O j).jA.k):=CC.c6;have q7:wr.cell? ⟨b,off+j*10+7,none⟩=some (.slice (k.O j).own.a (k.O j).own.n (k.O j).own.k):=CC.c7;have q8:wr.cell? ⟨b,off+j*10+8,none⟩=some (.int .i64 (k.O j).b2):=CC.c8;have q9:wr.cell? ⟨b,off+j*10+9,none⟩=some (.slice (k.O j).c2.a (k.O j).c2.n (k.O j).c2.k):=CC.c9;rw[ea]at a1;have hbw:b<wr.heap.size:=Nat.lt_of_lt_of_le hbl BB.out.size;have HLT:=hid hlt;have EA:=hid ea;have HC:Hid (∀X,Below V V X->Ci X b (off+j*10) (k.O j)):=hid (fun X hX=>(hc j HLT).1.below hbl hX);clear hc CC ea hlt;cases d with
   |true=>
    go_wp2_with fail
    go_quiet(fail)
    have bn:Below wr wr (wr.drewN nq):=below_drewN (Below.refl _ wr) nq;have OWn:=hid (OW.out.below bn);have BBn:=hid (BB.out.trans (bn.mono BB.out.size));clear a0 a1 q0 q1 q2 q3 q4 q5 q6 q7 q8 q9 o0 o1 o2 o3 o4 o5 o6 o7 o8 o9 PB;clear bn OW BB;generalize wr.drewN nq=W at *;obtain⟨a0,a1⟩:=(HA.out.below BBn).two;rw[EA.out]at a1;have PB:=hid (HP.out.below BBn);obtain⟨o0,o1,o2,o3,o4,o5,o6,o7,o8,o9⟩:=PB.out.jE;have CD:Ci W b (off+j*10) (k.O j):=HC.out W BBn.out;have q0:W.cell? ⟨b,off+j*10,none⟩=some (.int .i64 (k.O j).id):=CD.c0;have q1:W.cell? ⟨b,off+j*10+1,none⟩=some (.int .i64 (k.O j).kind):=CD.c1;have q2:W.cell? ⟨b,off+j*10+2,none⟩=some (.int .i64 (k.O j).up):=CD.c2;have q3:W.cell? ⟨b,off+j*10+3,none⟩=some (.int .i64 (k.O j).b1):=CD.c3;have q4:W.cell? ⟨b,off+j*10+4,none⟩=some (.slice (k.O j).c1.a (k.O j).c1.n (k.O j).c1.k):=CD.c4;have q5:W.cell? ⟨b,off+j*10+5,none⟩=some (.string (k.O j).data):=CD.c5;have q6:W.cell? ⟨b,off+j*10+6,none⟩=some (.slice (k.O j).jA.a (k.O j).jA.n (k.O j).jA.k):=CD.c6;have q7:W.cell? ⟨b,off+j*10+7,none⟩=some (.slice (k.O j).own.a (k.O j).own.n (k.O j).own.k):=CD.c7;have q8:W.cell? ⟨b,off+j*10+8,none⟩=some (.int .i64 (k.O j).b2):=CD.c8;have q9:W.cell? ⟨b,off+j*10+9,none⟩=some (.slice (k.O j).c2.a (k.O j).c2.n (k.O j).c2.k):=CD.c9;clear CD;have sV:V.heap.size<=W.heap.size:=BBn.out.size;have n2:No (.cells #[.int .i64 (k.O j).id,.int .i64 (k.O j).kind,.int .i64 (k.O j).up,.int .i64 (k.O j).b1,.slice (k.O j).c1.a (k.O j).c1.n (k.O j).c1.k,.string (k.O j).data,.slice (k.O j).jA.a (k.O j).jA.n (k.O j).jA.k,.slice (k.O j).own.a (k.O j).own.n (k.O j).own.k,.int .i64 (k.O j).b2,.slice (k.O j).c2.a (k.O j).c2.n (k.O j).c2.k] 88):=⟨⟩;have QO:=hid (OWn.out.below ((Below.refl _ W).alloc (Nat.le_refl _) n2));have QL:Hid (Bj (W.alloc n2) (some ⟨W,0,none⟩) 1 (Aw [k.O j])):=hid (AI.one W (k.O j));have sQ:V.heap.size<=(W.alloc n2).heap.size:=(by simp;omega);have bQ:=hid (BBn.out.alloc BBn.out.size n2);go_wp2_with(at_builtin;refine Ck _ rfl _ _ rfl V (.slice la l.length lc) l rfl QO _ _ (k.O j) rfl QL (by omega) sQ ?_;intro a7 c7 w7 o7 g7;have O7:=hid o7;have B7:Hid (Below V V w7):=hid (bQ.out.trans (below_grown g7 sQ (fun j e=>(World.ownsRow.lt QO j e).1)));clear o7 g7)
    go_roundw;case rel=>exact⟨j+1,true,l++[k.O j],a7,c7,by have:=HLT.out;omega,by go_num,rfl,by simp,Um AT,by rw[show(l++[k.O j]).length=l.length+1 from by simp];exact O7.out,B7⟩
    case measure=>have:=HLT.out;simp[intOf];omega
   |false=>
    by_cases hx:o.id<(k.O j).id
    ·have hx':decide (o.id<(k.O j).id)=true:=decide_eq_true hx;have HX:=hid hx;go_wp2_with fail
     go_quiet(fail)
     have bn:Below wr wr (wr.drewN nq):=below_drewN (Below.refl _ wr) nq;have OWn:=hid (OW.out.below bn);have BBn:=hid (BB.out.trans (bn.mono BB.out.size));clear a0 a1 q0 q1 q2 q3 q4 q5 q6 q7 q8 q9 o0 o1 o2 o3 o4 o5 o6 o7 o8 o9 PB;clear bn OW BB;generalize wr.drewN nq=W at *;obtain⟨a0,a1⟩:=(HA.out.below BBn).two;rw[EA.out]at a1;have PB:=hid (HP.out.below BBn);obtain⟨o0,o1,o2,o3,o4,o5,o6,o7,o8,o9⟩:=PB.out.jE;have CD:Ci W b (off+j*10) (k.O j):=HC.out W BBn.out;have q0:W.cell? ⟨b,off+j*10,none⟩=some (.int .i64 (k.O j).id):=CD.c0;have q1:W.cell? ⟨b,off+j*10+1,none⟩=some (.int .i64 (k.O j).kind):=CD.c1;have q2:W.cell? ⟨b,off+j*10+2,none⟩=some (.int .i64 (k.O j).up):=CD.c2;have q3:W.cell? ⟨b,off+j*10+3,none⟩=some (.int .i64 (k.O j).b1):=CD.c3;have q4:W.cell? ⟨b,off+j*10+4,none⟩=some (.slice (k.O j).c1.a (k.O j).c1.n (k.O j).c1.k):=CD.c4;have q5:W.cell? ⟨b,off+j*10+5,none⟩=some (.string (k.O j).data):=CD.c5;have q6:W.cell? ⟨b,off+j*10+6,none⟩=some (.slice (k.O j).jA.a (k.O j).jA.n (k.O j).jA.k):=CD.c6;have q7:W.cell? ⟨b,off+j*10+7,none⟩=some (.slice (k.O j).own.a (k.O j).own.n (k.O j).own.k):=CD.c7;have q8:W.cell? ⟨b,off+j*10+8,none⟩=some (.int .i64 (k.O j).b2):=CD.c8;have q9:W.cell? ⟨b,off+j*10+9,none⟩=some (.slice (k.O j).c2.a (k.O j).c2.n (k.O j).c2.k):=CD.c9;clear CD;have sV:V.heap.size<=W.heap.size:=BBn.out.size;have Oe:True:=trivial;have n5:No (.cells #[o.id,o.kind,o.up,o.b1,.slice o.c1.a o.c1.n o.c1.k,.string o.data,.slice o.jA.a o.jA.n o.jA.k,.slice o.own.a o.own.n o.own.k,o.b2,.slice o.c2.a o.c2.n o.c2.k] 88):=⟨⟩;have PO:=hid (OWn.out.below ((Below.refl _ W).alloc (Nat.le_refl _) n5));have PL:Hid (Bj (W.alloc n5) (some ⟨W,0,none⟩) 1 (Aw [o])):=hid (AI.one W o);have sP:V.heap.size<=(W.alloc n5).heap.size:=(by simp;omega);have bP:=hid (BBn.out.alloc BBn.out.size n5);go_wp2_with(first
      |(at_builtin;have mq:=Oe;clear Oe mq;refine Ck _ rfl _ _ rfl V (.slice la l.length lc) l rfl PO _ _ o rfl PL (by omega) sP ?_;intro a6 c6 w6 ow6 g6;have B6:Hid (Below V V w6):=hid (bP.out.trans (below_grown g6 sP (fun j e=>(World.ownsRow.lt PO j e).1)));have O6:=hid (ow6.below ((Below.refl _ w6).alloc (Nat.le_refl _) (.cells #[.int .i64 (k.O j).id,.int .i64 (k.O j).kind,.int .i64 (k.O j).up,.int .i64 (k.O j).b1,.slice (k.O j).c1.a (k.O j).c1.n (k.O j).c1.k,.string (k.O j).data,.slice (k.O j).jA.a (k.O j).jA.n (k.O j).jA.k,.slice (k.O j).own.a (k.O j).own.n (k.O j).own.k,.int .i64 (k.O j).b2,.slice (k.O j).c2.a (k.O j).c2.n (k.O j).c2.k] 88)));have QL:Hid (Bj (w6.alloc (.cells #[.int .i64 (k.O j).id,.int .i64 (k.O j).kind,.int .i64 (k.O j).up,.int .i64 (k.O j).b1,.slice (k.O j).c1.a (k.O j).c1.n (k.O j).c1.k,.string (k.O j).data,.slice (k.O j).jA.a (k.O j).jA.n (k.O j).jA.k,.slice (k.O j).own.a (k.O j).own.n (k.O j).own.k,.int .i64 (k.O j).b2,.slice (k.O j).c2.a (k.O j).c2.n (k.O j).c2.k] 88)) (some ⟨w6,0,none⟩) 1 (Aw [k.O j])):=hid (AI.one w6 (k.O j));have s6:V.heap.size<=w6.heap.size:=B6.out.size;have sQ:V.heap.size<=(w6.alloc (.cells #[.int .i64 (k.O j).id,.int .i64 (k.O j).kind,.int .i64 (k.O j).up,.int .i64 (k.O j).b1,.slice (k.O j).c1.a (k.O j).c1.n (k.O j).c1.k,.string (k.O j).data,.slice (k.O j).jA.a (k.O j).jA.n (k.O j).jA.k,.slice (k.O j).own.a (k.O j).own.n (k.O j).own.k,.int .i64 (k.O j).b2,.slice (k.O j).c2.a (k.O j).c2.n (k.O j).c2.k] 88)).heap.size:=(by simp;omega);have bQ:=hid (B6.out.alloc B6.out.size (.cells #[.int .i64 (k.O j).id,.int .i64 (k.O j).kind,.int .i64 (k.O j).up,.int .i64 (k.O j).b1,.slice (k.O j).c1.a (k.O j).c1.n (k.O j).c1.k,.string (k.O j).data,.slice (k.O j).jA.a (k.O j).jA.n (k.O j).jA.k,.slice (k.O j).own.a (k.O j).own.n (k.O j).own.k,.int .i64 (k.O j).b2,.slice (k.O j).c2.a (k.O j).c2.n (k.O j).c2.k] 88));clear ow6 g6 a0 a1 q0 q1 q2 q3 q4 q5 q6 q7 q8 q9 o0 o1 o2 o3 o4 o5 o6 o7 o8 o9;obtain⟨a0,a1⟩:=(HA.out.below B6).two;rw[EA.out]at a1;have CE:Ci w6 b (off+j*10) (k.O j):=HC.out w6 B6.out;have q0:w6.cell? ⟨b,off+j*10,none⟩=some (.int .i64 (k.O j).id):=CE.c0;have q1:w6.cell? ⟨b,off+j*10+1,none⟩=some (.int .i64 (k.O j).kind):=CE.c1;have q2:w6.cell? ⟨b,off+j*10+2,none⟩=some (.int .i64 (k.O j).up):=CE.c2;have q3:w6.cell? ⟨b,off+j*10+3,none⟩=some (.int .i64 (k.O j).b1):=CE.c3;have q4:w6.cell? ⟨b,off+j*10+4,none⟩=some (.slice (k.O j).c1.a (k.O j).c1.n (k.O j).c1.k):=CE.c4;have q5:w6.cell? ⟨b,off+j*10+5,none⟩=some (.string (k.O j).data):=CE.c5;have q6:w6.cell? ⟨b,off+j*10+6,none⟩=some (.slice (k.O j).jA.a (k.O j).jA.n (k.O j).jA.k):=CE.c6;have q7:w6.cell? ⟨b,off+j*10+7,none⟩=some (.slice (k.O j).own.a (k.O j).own.n (k.O j).own.k):=CE.c7;have q8:w6.cell? ⟨b,off+j*10+8,none⟩=some (.int .i64 (k.O j).b2):=CE.c8;have q9:w6.cell? ⟨b,off+j*10+9,none⟩=some (.slice (k.O j).c2.a (k.O j).c2.n (k.O j).c2.k):=CE.c9;clear CE;have l6:(l++[o]).length<=1048576:=(by simp;omega);have QX:True:=trivial)
      |(at_builtin;have mq:=QX;refine Ck _ rfl _ _ rfl V (.slice a6 (l.length+1) c6) (l++[o]) rfl O6 _ _ (k.O j) rfl QL l6 sQ ?_;intro a7 c7 w7 o7 g7;have O7:=hid o7;have B7:Hid (Below V V w7):=hid (bQ.out.trans (below_grown g7 sQ (fun j e=>(World.ownsRow.lt O6 j e).1)));clear o7 g7))
     go_roundw;case rel=>exact⟨j+1,true,l++[o]++[k.O j],a7,c7,by have:=HLT.out;omega,by go_num,rfl,by simp,US AT HX,by rw[show(l++[o]++[k.O j]).length=(l++[o]).length+1 from by simp];exact O7.out,B7⟩
     case measure=>have:=HLT.out;simp[intOf];omega
    ·have hx':decide (o.id<(k.O j).id)=false:=decide_eq_false hx;have HX:=hid hx;go_wp2_with fail
     go_quiet(fail)
     have bn:Below wr wr (wr.drewN nq):=below_drewN (Below.refl _ wr) nq;have OWn:=hid (OW.out.below bn);have BBn:=hid (BB.out.trans (bn.mono BB.out.size));clear a0 a1 q0 q1 q2 q3 q4 q5 q6 q7 q8 q9 o0 o1 o2 o3 o4 o5 o6 o7 o8 o9 PB;clear bn OW BB;generalize wr.drewN nq=W at *;obtain⟨a0,a1⟩:=(HA.out.below BBn).two;rw[EA.out]at a1;have PB:=hid (HP.out.below BBn);obtain⟨o0,o1,o2,o3,o4,o5,o6,o7,o8,o9⟩:=PB.out.jE;have CD:Ci W b (off+j*10) (k.O j):=HC.out W BBn.out;have q0:W.cell? ⟨b,off+j*10,none⟩=some (.int .i64 (k.O j).id):=CD.c0;have q1:W.cell? ⟨b,off+j*10+1,none⟩=some (.int .i64 (k.O j).kind):=CD.c1;have q2:W.cell? ⟨b,off+j*10+2,none⟩=some (.int .i64 (k.O j).up):=CD.c2;have q3:W.cell? ⟨b,off+j*10+3,none⟩=some (.int .i64 (k.O j).b1):=CD.c3;have q4:W.cell? ⟨b,off+j*10+4,none⟩=some (.slice (k.O j).c1.a (k.O j).c1.n (k.O j).c1.k):=CD.c4;have q5:W.cell? ⟨b,off+j*10+5,none⟩=some (.string (k.O j).data):=CD.c5;have q6:W.cell? ⟨b,off+j*10+6,none⟩=some (.slice (k.O j).jA.a (k.O j).jA.n (k.O j).jA.k):=CD.c6;have q7:W.cell? ⟨b,off+j*10+7,none⟩=some (.slice (k.O j).own.a (k.O j).own.n (k.O j).own.k):=CD.c7;have q8:W.cell? ⟨b,off+j*10+8,none⟩=some (.int .i64 (k.O j).b2):=CD.c8;have q9:W.cell? ⟨b,off+j*10+9,none⟩=some (.slice (k.O j).c2.a (k.O j).c2.n (k.O j).c2.k):=CD.c9;clear CD;have sV:V.heap.size<=W.heap.size:=BBn.out.size;have n3:No (.cells #[.int .i64 (k.O j).id,.int .i64 (k.O j).kind,.int .i64 (k.O j).up,.int .i64 (k.O j).b1,.slice (k.O j).c1.a (k.O j).c1.n (k.O j).c1.k,.string (k.O j).data,.slice (k.O j).jA.a (k.O j).jA.n (k.O j).jA.k,.slice (k.O j).own.a (k.O j).own.n (k.O j).own.k,.int .i64 (k.O j).b2,.slice (k.O j).c2.a (k.O j).c2.n (k.O j).c2.k] 88):=⟨⟩;have QO:=hid (OWn.out.below ((Below.refl _ W).alloc (Nat.le_refl _) n3));have QL:Hid (Bj (W.alloc n3) (some ⟨W,0,none⟩) 1 (Aw [k.O j])):=hid (AI.one W (k.O j));have sQ:V.heap.size<=(W.alloc n3).heap.size:=(by simp;omega);have bQ:=hid (BBn.out.alloc BBn.out.size n3);go_wp2_with(at_builtin;refine Ck _ rfl _ _ rfl V (.slice la l.length lc) l rfl QO _ _ (k.O j) rfl QL (by omega) sQ ?_;intro a7 c7 w7 o7 g7;have O7:=hid o7;have B7:Hid (Below V V w7):=hid (bQ.out.trans (below_grown g7 sQ (fun j e=>(World.ownsRow.lt QO j e).1)));clear o7 g7)
     go_roundw;case rel=>exact⟨j+1,false,l++[k.O j],a7,c7,by have:=HLT.out;omega,by go_num,rfl,by simp,Ut AT (Int.not_lt.2 HX),by rw[show(l++[k.O j]).length=l.length+1 from by simp];exact O7.out,B7⟩
     case measure=>have:=HLT.out;simp[intOf];omega
  ·obtain rfl:j=k.on:=by omega
   have i1:¬(k.on:Int)<(k.on:Int):=(by omega);have rA:=(HA.out.below BB).jC;obtain⟨r0,r1⟩:=(HR.out.below BB).two;have rf:=(HR.out.below BB).jC;cases d with
   |true=>
    have EL:Hid ((Be o (k.oL k.on)).length=l.length/\Be o (k.oL k.on)=l):=hid ⟨by rw[AT.out.1],AT.out.1.symm⟩;go_wp2;have KB:=hid (HA.out.below BB);have RB:=hid ((HR.out.below BB).other (Q:=w.heap.size) (i:=1) (by omega) (.slice la l.length lc));have FO:=hid (((AI.set OW KB (i:=1) (by decide) (.slice la l.length lc)).set RB (i:=0) (by decide) (.slice k.ta k.tn k.tk)).set (RB.out.jB (i:=0) (.slice k.ta k.tn k.tk)) (i:=1) (by decide) (.slice la l.length lc));refine bodyPost_ret (GB _ _ (w.heap.size+1+1) 4 _ _ Tryz.results90 ((RB.out.jB (i:=0) _).jB (i:=1) _) rfl) rfl ⟨la,lc,by rw[EL.out.1],by rw[EL.out.2];exact FO.out.base HB.out.size,?_⟩;iterate 3 refine Below.setCell ?_ (by dsimp only;omega) _
    exact HB.out.trans (BB.out.mono HB.out.size)
   |false=>
    have EL:Hid ((Be o (k.oL k.on)).length=l.length+1/\Be o (k.oL k.on)=l++[o]):=hid (by
     have h:Be o (k.oL k.on)=l++[o]:=by
      have:=Ko (b:=[]) AT.out.2;rw[List.append_nil]at this;rw[this,AT.out.1];rfl
     exact⟨by rw[h];simp,h⟩)
    have n6:No (.cells #[o.id,o.kind,o.up,o.b1,.slice o.c1.a o.c1.n o.c1.k,.string o.data,.slice o.jA.a o.jA.n o.jA.k,.slice o.own.a o.own.n o.own.k,o.b2,.slice o.c2.a o.c2.n o.c2.k] 88):=⟨⟩;have PO:=hid (OW.out.below ((Below.refl _ wr).alloc (Nat.le_refl _) n6));have PL:Hid (Bj (wr.alloc n6) (some ⟨wr,0,none⟩) 1 (Aw [o])):=hid (AI.one wr o);have sV:V.heap.size<=wr.heap.size:=BB.out.size;have sP:V.heap.size<=(wr.alloc n6).heap.size:=(by simp;omega);have bP:=hid (BB.out.alloc BB.out.size n6);go_wp2_with(at_builtin;refine Ck _ rfl _ _ rfl V (.slice la l.length lc) l rfl PO _ _ o rfl PL (by omega) sP ?_;intro a6 c6 w6 ow6 g6;have B6:Hid (Below V V w6):=hid (bP.out.trans (below_grown g6 sP (fun j e=>(World.ownsRow.lt PO j e).1)));have O6:=hid ow6;clear ow6 g6 a0 a1 o0 o1 o2 o3 o4 o5 o6 o7 o8 o9 r0 r1 rf rA;obtain⟨a0,a1⟩:=(HA.out.below B6).two;have rA:=(HA.out.below B6).jC;obtain⟨r0,r1⟩:=(HR.out.below B6).two;have rf:=(HR.out.below B6).jC)
    have KB:=hid (HA.out.below B6);have n9:Nv (.slice a6 (l.length+1) c6):=⟨⟩;have RB:=hid ((HR.out.below B6).other (Q:=w.heap.size) (i:=1) (by omega) n9);have FO:=hid (((AI.set O6 KB (i:=1) (by decide) n9).set RB (i:=0) (by decide) (.slice k.ta k.tn k.tk)).set (RB.out.jB (i:=0) (.slice k.ta k.tn k.tk)) (i:=1) (by decide) n9);refine bodyPost_ret (GB _ _ (w.heap.size+1+1) 4 _ _ Tryz.results90 ((RB.out.jB (i:=0) _).jB (i:=1) _) rfl) rfl ⟨a6,c6,by rw[EL.out.1],by rw[EL.out.1,EL.out.2];exact FO.out.base HB.out.size,?_⟩;iterate 3 refine Below.setCell ?_ (by dsimp only;omega) _
    exact HB.out.trans (B6.out.mono HB.out.size)
structure Ak where
 th:Int
 kind:Int
 id:Int
 «to»:Int
 cat:Int
 data:ByteArray
 b1:Int
 c1:Al
 b2:Int
 c2:Al
def Ak.cells(s:Ak):Array Value:=#[s.th,s.kind,s.id,s.to,s.cat,.string s.data,s.b1,.slice s.c1.a s.c1.n s.c1.k,s.b2,.slice s.c2.a s.c2.n s.c2.k]
def Ak.at(w:World)(s:Ak):Prop:=s.c1.at w/\s.c2.at w/\s.data.size<=maxLen
theorem Ak.at.below{w w':World}{s:Ak}(h:s.at w)(hb:Below w w w'):s.at w':=⟨h.1.below hb,h.2.1.below hb,h.2.2⟩
theorem Ct{α:Type}{f:α->List Value}{c:Nat}(hl:∀x,(f x).length=c):∀{l:List α}{t i:Nat}{x:α}{u:Value} (ht:t<l.length),i<c->f x=(f l[t]).set i u->((l.map f).flatten).set (t*c+i) u=((l.set t x).map f).flatten
 |[],t,_,_,_,ht,_,_=>absurd ht (Nat.not_lt_zero t)
 |y::r,0,i,x,u,_,hi,h=>by
  show(f y++(r.map f).flatten).set (0*c+i) u=f x++(r.map f).flatten;rw[Nat.zero_mul,Nat.zero_add,List.set_append_left _ _ (by rw[hl];exact hi)];have h':f x=(f y).set i u:=h;rw[h']
 |y::r,t+1,i,x,u,ht,hi,h=>by
  show(f y++(r.map f).flatten).set ((t+1)*c+i) u=f y++((r.set t x).map f).flatten;have e:(t+1)*c+i=(f y).length+(t*c+i):=by rw[hl,Nat.succ_mul];omega
  rw[e,List.set_append_right _ _ (by omega),Nat.add_sub_cancel_left];rw[Ct hl (l:=r) (t:=t) (x:=x) (by simpa using ht) hi h]
theorem Ac.jK(x:Ac):x.cs.length=7:=rfl
theorem Ab.jK(x:Ab):x.cs.length=10:=rfl
theorem IP{α:Type}{l:List α}{t:Nat}{x y:α}(h:y∈l.set t x):y=x∨y∈l:=by
 rcases List.mem_or_eq_of_mem_set h with h|h
 ·exact .inr h
 ·exact .inl h
theorem Cg.setT{w:World}{B g ca:Nat}{vo:Value}{lt:List Ac}{lo:List Ab}(h:Cg w B (.slice (some ⟨g,0,none⟩) lt.length ca) vo lt lo){t i:Nat}{x:Ac}{u:Value}(ht:t<lt.length)(hi:i<7)(hcs:x.cs=(lt[t]).cs.set i u)(hx:x.new B w)(hc:x.own.n<=x.own.k/\x.own.k<=maxLen):
 Cg (w.setCell ⟨g,t*7+i,none⟩ u) B (.slice (some ⟨g,0,none⟩) (lt.set t x).length ca) vo (lt.set t x) lo/\(∃cur,Ah w g (.cells cur 86))/\B<=g:=by
 have hg:∃cur,Ah w g (.cells cur 86):=by
  rcases h.t.2 with⟨hv,_⟩|⟨g',cap,cur,hv,_,hgg,_⟩
  ·cases hv
  ·cases hv;exact⟨cur,hgg⟩
 have hBg:B<=g:=(World.ownsRow.lt h.t g rfl).1;obtain⟨cur,hcur⟩:=hg;have kl:=AF (i:=t*7+i) hcur (by decide) u;have el:(lt.set t x).length=lt.length:=by simp
 have ho:=(World.ownsRow.stored h.t (t*7+i) u).1;refine⟨⟨?_,h.o.set hcur (by decide) u,fun y hy=>?_,fun y hy=>(h.on y hy).keeps kl,fun y hy=>?_,h.oc⟩,⟨cur,hcur⟩,hBg⟩
 ·unfold Dt;rw[el];have e:=Ct (f:=Ac.cs) Ac.jK (l:=lt) (t:=t) (x:=x) (u:=u) ht hi hcs;unfold BN;rw[<-e];exact ho
 ·rcases IP hy with rfl|hy
  ·exact hx.keeps kl
  ·exact(h.tn y hy).keeps kl
 ·rcases IP hy with rfl|hy
  ·exact hc
  ·exact h.tc y hy
theorem Cg.setO{w:World}{B g co:Nat}{vt:Value}{lt:List Ac}{lo:List Ab}(h:Cg w B vt (.slice (some ⟨g,0,none⟩) lo.length co) lt lo){t i:Nat}{x:Ab}{u:Value}(ht:t<lo.length)(hi:i<10)(hcs:x.cs=(lo[t]).cs.set i u)(hx:x.new B w)(hc:x.jA.n<=x.jA.k/\x.jA.k<=maxLen):
 Cg (w.setCell ⟨g,t*10+i,none⟩ u) B vt (.slice (some ⟨g,0,none⟩) (lo.set t x).length co) lt (lo.set t x)/\(∃cur,Ah w g (.cells cur 88))/\B<=g:=by
 have hg:∃cur,Ah w g (.cells cur 88):=by
  rcases h.o.2 with⟨hv,_⟩|⟨g',cap,cur,hv,_,hgg,_⟩
  ·cases hv
  ·cases hv;exact⟨cur,hgg⟩
 have hBg:B<=g:=(World.ownsRow.lt h.o g rfl).1;obtain⟨cur,hcur⟩:=hg;have kl:=AF (i:=t*10+i) hcur (by decide) u;have el:(lo.set t x).length=lo.length:=by simp
 have ho:=(World.ownsRow.stored h.o (t*10+i) u).1;refine⟨⟨h.t.set hcur (by decide) u,?_,fun y hy=>(h.tn y hy).keeps kl,fun y hy=>?_,h.tc,fun y hy=>?_⟩,⟨cur,hcur⟩,hBg⟩
 ·unfold AI;rw[el];have e:=Ct (f:=Ab.cs) Ab.jK (l:=lo) (t:=t) (x:=x) (u:=u) ht hi hcs;unfold Aw;rw[<-e];exact ho
 ·rcases IP hy with rfl|hy
  ·exact hx.keeps kl
  ·exact(h.on y hy).keeps kl
 ·rcases IP hy with rfl|hy
  ·exact hc
  ·exact h.oc y hy
def Hg(s:Ak)(g nt ca q no co t:Nat)(m:Value):Array Value:=#[s.th,s.kind,s.id,s.to,s.cat,.string s.data,s.b1,.slice s.c1.a s.c1.n s.c1.k,s.b2,.slice s.c2.a s.c2.n s.c2.k,.slice (some ⟨g,0,none⟩) nt ca,.slice (some ⟨q,0,none⟩) no co,.pointer (some ⟨g,t*7,none⟩),m]
structure DX(wr:World)(B P:Nat)(s:Ak)(g ca q co:Nat)(lt:List Ac)(lo:List Ab)(t:Nat)(m:Value):Prop where
 st:Cg wr B (.slice (some ⟨g,0,none⟩) lt.length ca) (.slice (some ⟨q,0,none⟩) lo.length co) lt lo
 ap:Apart lt lo
 wk:Ah wr P (.cells (Hg s g lt.length ca q lo.length co t m) 102)
 lp:B<=P
theorem Ah.work{W:World}{P ty:Nat}{s:Ak}{g nt ca q no co t:Nat}{m:Value}(h:Ah W P (.cells (Hg s g nt ca q no co t m) ty)):
 (W.cell? ⟨P,0,none⟩=some (.int .i64 s.th)/\W.cell? ⟨P,1,none⟩=some (.int .i64 s.kind)/\W.cell? ⟨P,2,none⟩=some (.int .i64 s.id)/\W.cell? ⟨P,3,none⟩=some (.int .i64 s.to)/\W.cell? ⟨P,4,none⟩=some (.int .i64 s.cat)/\W.cell? ⟨P,5,none⟩=some (.string s.data)/\W.cell? ⟨P,6,none⟩=some (.int .i64 s.b1)/\W.cell? ⟨P,7,none⟩=some (.slice s.c1.a s.c1.n s.c1.k)/\W.cell? ⟨P,8,none⟩=some (.int .i64 s.b2)/\W.cell? ⟨P,9,none⟩=some (.slice s.c2.a s.c2.n s.c2.k))/\
 W.cell? ⟨P,10,none⟩=some (.slice (some ⟨g,0,none⟩) nt ca)/\W.cell? ⟨P,11,none⟩=some (.slice (some ⟨q,0,none⟩) no co)/\W.cell? ⟨P,12,none⟩=some (.pointer (some ⟨g,t*7,none⟩))/\W.cell? ⟨P,13,none⟩=some m:=by
 unfold Ah Hg at h;simp[World.cell?,h]
section
variable {wr w':World}{B P:Nat}{s:Ak}{g ca q co:Nat}{lt:List Ac}{lo:List Ab}{t:Nat}{m:Value}
theorem DX.below(h:DX wr B P s g ca q co lt lo t m)(hb:Below wr wr w'):DX w' B P s g ca q co lt lo t m:=
 ⟨h.st.below hb,h.ap,h.wk.below hb,h.lp⟩
end
theorem MS:∀{L:List (List Nat)}{t:Nat}{l:List Nat} (l':List Nat),L[t]? =some l->∃R:List Nat,L.flatten.Perm (l++R)/\(L.set t l').flatten.Perm (l'++R)
 |[],t,l,_,h=>by simp at h
 |x::L,0,l,l',h=>by
  simp only[List.getElem?_cons_zero,Option.some.injEq]at h;subst h;exact⟨L.flatten,by simp,by simp⟩
 |x::L,t+1,l,l',h=>by
  simp only[List.getElem?_cons_succ]at h;obtain⟨R,h1,h2⟩:=MS l' h;refine⟨x++R,?_,?_⟩
  ·simp only[List.flatten_cons];refine(h1.append_left x).trans ?_;rw[<-List.append_assoc,<-List.append_assoc];exact List.perm_append_comm.append_right R
  ·simp only[List.set_cons_succ,List.flatten_cons];refine(h2.append_left x).trans ?_;rw[<-List.append_assoc,<-List.append_assoc];exact List.perm_append_comm.append_right R
theorem Td{l l' R:List Nat}{M:Nat}(h:(l++R).Nodup)(h1:l'.Nodup)(h2:∀x∈l',x∈l∨M<=x)(h3:∀x∈l++R,x<M):(l'++R).Nodup:=by
 rw[List.nodup_append]at h ⊢;refine⟨h1,h.2.1,fun x hx y hy e=>?_⟩;subst e;rcases h2 x hx with a|a
 ·exact h.2.2 x a x hy rfl
 ·have:=h3 x (List.mem_append.2 (.inr hy));omega
theorem GX{L:List (List Nat)}{S:List Nat}{t M:Nat}{l:List Nat}(l':List Nat)(hl:L[t]? =some l)(h:(L.flatten++S).Nodup)(h1:l'.Nodup)(h2:∀x∈l',x∈l∨M<=x)(h3:∀x∈L.flatten++S,x<M):((L.set t l').flatten++S).Nodup:=by
 obtain⟨R,p1,p2⟩:=MS l' hl;have q1:(L.flatten++S).Perm (l++(R++S)):=by rw[<-List.append_assoc];exact p1.append_right S
 have q2:((L.set t l').flatten++S).Perm (l'++(R++S)):=by rw[<-List.append_assoc];exact p2.append_right S
 exact q2.nodup_iff.2 (Td (q1.nodup_iff.1 h) h1 h2 (fun x hx=>h3 x (q1.mem_iff.2 hx)))
theorem Cx{L:List (List Nat)}{S:List Nat}{t:Nat}{l:List Nat}(hl:L[t]? =some l)(h:(L.flatten++S).Nodup):l.Nodup:=by
 obtain⟨R,p1,_⟩:=MS [] hl;exact(List.nodup_append.1 (p1.nodup_iff.1 (List.nodup_append.1 h).1)).1
theorem Apart.setT{w:World}{B:Nat}{vt vo:Value}{lt:List Ac}{lo:List Ab}(h:Apart lt lo)(hk:Cg w B vt vo lt lo){t:Nat}(ht:t<lt.length){x:Ac}(hn:x.cb.Nodup)(hc:∀b∈x.cb,b∈lt[t].cb∨w.heap.size<=b)(hd:x.own.bs.Nodup)(hi:∀b∈x.own.bs,b∈lt[t].own.bs∨w.heap.size<=b):Apart (lt.set t x) lo:=by
 obtain⟨k1,k2,_⟩:=hk.low3;refine⟨?_,?_,h.s⟩
 ·rw[List.map_set];exact GX x.cb (l:=lt[t].cb) (by simp[ht]) h.c hn hc k1
 ·rw[List.map_set];exact GX x.own.bs (l:=lt[t].own.bs) (by simp[ht]) h.i hd hi k2
theorem Apart.setO{w:World}{B:Nat}{vt vo:Value}{lt:List Ac}{lo:List Ab}(h:Apart lt lo)(hk:Cg w B vt vo lt lo){t:Nat}(ht:t<lo.length){x:Ab}(hn:x.cb.Nodup)(hc:∀b∈x.cb,b∈lo[t].cb∨w.heap.size<=b)(hd:x.own.bs.Nodup)(hi:∀b∈x.own.bs,b∈lo[t].own.bs∨w.heap.size<=b)(he:x.jA.bs.Nodup)(hs:∀b∈x.jA.bs,b∈lo[t].jA.bs∨w.heap.size<=b):Apart lt (lo.set t x):=by
 obtain⟨k1,k2,k3⟩:=hk.low3;refine⟨?_,?_,?_⟩
 ·rw[List.map_set];refine List.perm_append_comm.nodup_iff.2 (GX x.cb (l:=lo[t].cb) (by simp[ht]) (List.perm_append_comm.nodup_iff.2 h.c) hn hc (fun b hb=>k1 b (List.perm_append_comm.mem_iff.2 hb)))
 ·rw[List.map_set];refine List.perm_append_comm.nodup_iff.2 (GX x.own.bs (l:=lo[t].own.bs) (by simp[ht]) (List.perm_append_comm.nodup_iff.2 h.i) hd hi (fun b hb=>k2 b (List.perm_append_comm.mem_iff.2 hb)))
 ·rw[List.map_set];have:=GX x.jA.bs (S:=[]) (L:=lo.map fun x=>x.jA.bs) (t:=t) (l:=lo[t].jA.bs) (by simp[ht]) (by rw[List.append_nil];exact h.s) he hs (by rw[List.append_nil];exact k3);rw[List.append_nil]at this;exact this
end Go.Proofs.YtmikapeeflcbfaaGreatDoor
