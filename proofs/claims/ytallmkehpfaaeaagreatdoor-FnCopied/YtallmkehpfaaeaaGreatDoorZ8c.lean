import Derived.Test.YtallmkehpfaaeaaGreatDoorZ7c
set_option maxRecDepth 100000
set_option maxHeartbeats 16000000
namespace Go.Proofs.YtallmkehpfaaeaaGreatDoor
open Go Go.RowKit Go.Deep Go.Maps Go.BigFrame Go.Shelf Go.Proofs.Tryz
theorem Gu{F:Func}(tmps:Array Value)(W:World)(P n:Nat)(x y:Value)(hF:F.results=#[.cell n 27])(h:Ah W P (.cells #[x,y] 27))(h2:tmps[n]? =some (.pointer (some ⟨P,0,none⟩))):
 (results F tmps).run prog W= .ok (.agg #[x,y]) W:=by
 obtain⟨z0,z1⟩:=h.two;simp[results,hF,go_sem,h2,z0,z1]
structure IN(w:World)(k:Av)(wr:World)(vt vo:Value)(lt:List Ae)(lo:List Ab):Prop where
 st:Bu wr w vt vo lt lo
 st1:∀i,i<lt.length->(k.T i).same (AY lt i)
 so1:∀i,i<lo.length->(k.O i).same (Aa lo i)
 a:Ah wr w (.cells #[.slice k.ta k.tn k.tk,.slice k.oa k.on k.ok] 27)
 r:Ah wr (w.heap.size+1) (.cells #[.slice none 0 0,.slice none 0 0] 27)
 o:Ah wr (w.heap.size+1+1) (.cells #[vt,vo] 27)
 be:Below w w wr
theorem IN.below{w:World}{k:Av}{wr wr':World}{vt vo:Value}{lt:List Ae}{lo:List Ab}(h:IN w k wr vt vo lt lo)(hb:Below wr wr wr'):IN w k wr' vt vo lt lo:=
 ⟨h.st.below hb,h.st1,h.so1,h.a.below hb,h.r.below hb,h.o.below hb,h.be.trans (hb.mono h.be.size)⟩
theorem Mj{lt:List Ae}{u:Ae}:(∀i,i<lt.length->AY (lt++[u]) i=AY lt i)/\AY (lt++[u]) lt.length=u:=⟨fun i hi=>by simp[AY,List.getElem?_append,hi],by simp[AY]⟩
theorem Lx{lo:List Ab}{u:Ab}:(∀i,i<lo.length->Aa (lo++[u]) i=Aa lo i)/\Aa (lo++[u]) lo.length=u:=⟨fun i hi=>by simp[Aa,List.getElem?_append,hi],by simp[Aa]⟩
theorem IN.addT{w:World}{k:Av}{wr w':World}{a:Option Addr}{c:Nat}{vt vo:Value}{lt:List Ae}{lo:List Ab}{u:Ae}(h:IN w k wr vt vo lt lo)(ho:CZ w' w (.slice a (lt.length+1) c) (lt++[u]))(hg:wr.grownBy w' vt.ownBlock)(hu:u.new w wr)(hs:(k.T lt.length).same u)(hc:u.own.n<=u.own.k/\u.own.k<=maxLen):
 Ah w' (w.heap.size+1+1) (.cells #[vt,vo] 27)/\IN w k (w'.setCell ⟨w.heap.size+1+1,0,none⟩ (.slice a (lt.length+1) c)) (.slice a (lt.length+1) c) vo (lt++[u]) lo:=by
 obtain⟨k1,kk⟩:=h.st.addT ho hg hu hc;have o1:Ah w' (w.heap.size+1+1) (.cells #[vt,vo] 27):=kk.blk h.o (by decide) (by decide);have b1:Below w wr w':=below_grown hg h.be.size (fun j e=>(World.ownsRow.lt h.st.t j e).1);refine⟨o1,k1.set o1 (.inl rfl) _,fun i hi=>?_,h.so1,(kk.blk h.a (by decide) (by decide)).other (by omega) _,(kk.blk h.r (by decide) (by decide)).other (by omega) _,o1.setAt (i:=0) _,(h.be.trans b1).setCell (by dsimp only;omega) _⟩;by_cases e:i<lt.length
 ·rw[Mj.1 i e];exact h.st1 i e
 ·have:i=lt.length:=by simp at hi;omega
  rw[this,Mj.2];exact hs
theorem IN.addO{w:World}{k:Av}{wr w':World}{a:Option Addr}{c:Nat}{vt vo:Value}{lt:List Ae}{lo:List Ab}{u:Ab}(h:IN w k wr vt vo lt lo)(ho:AV w' w (.slice a (lo.length+1) c) (lo++[u]))(hg:wr.grownBy w' vo.ownBlock)(hu:u.new w wr)(hs:(k.O lo.length).same u)(hc:u.items.n<=u.items.k/\u.items.k<=maxLen):
 Ah w' (w.heap.size+1+1) (.cells #[vt,vo] 27)/\IN w k (w'.setCell ⟨w.heap.size+1+1,1,none⟩ (.slice a (lo.length+1) c)) vt (.slice a (lo.length+1) c) lt (lo++[u]):=by
 obtain⟨k1,kk⟩:=h.st.addO ho hg hu hc;have o1:Ah w' (w.heap.size+1+1) (.cells #[vt,vo] 27):=kk.blk h.o (by decide) (by decide);have b1:Below w wr w':=below_grown hg h.be.size (fun j e=>(World.ownsRow.lt h.st.o j e).1);refine⟨o1,k1.set o1 (.inl rfl) _,h.st1,fun i hi=>?_,(kk.blk h.a (by decide) (by decide)).other (by omega) _,(kk.blk h.r (by decide) (by decide)).other (by omega) _,o1.setAt (i:=1) _,(h.be.trans b1).setCell (by dsimp only;omega) _⟩;by_cases e:i<lo.length
 ·rw[Lx.1 i e];exact h.so1 i e
 ·have:i=lo.length:=by simp at hi;omega
  rw[this,Lx.2];exact hs
theorem Q5(k:Av)(w:World)(hk:k.at w)(hs:k.small):
 Calls prog 81 #[k.val] w fun e w'=>∃(lt:List Ae) (lo:List Ab) (ta oa:Option Addr) (ca co:Nat),e= .returned (.agg #[.slice ta lt.length ca,.slice oa lo.length co])/\Bu w' w (.slice ta lt.length ca) (.slice oa lo.length co) lt lo/\k.same (Cl ta ca oa co lt lo)/\Below w w w':=by
 have HT:=hid hk.2.2.1;have HO:=hid hk.2.2.2;have SMALL:=hid hs;have n2:No (.cells #[.slice none 0 0,.slice none 0 0] 27):=⟨⟩;have n3:No (.cells #[.slice k.ta k.tn k.tk,.slice k.oa k.on k.ok] 27):=⟨⟩;have n4:Nw (((w.alloc n3).alloc n2).alloc n2):=⟨⟩;have b0:Below w w n4:=(((Below.refl _ w).alloc (Nat.le_refl _) _).alloc (by simp) _).alloc (by simp;omega) _;have S0:Hid (IN w k n4 (.slice none 0 0) (.slice none 0 0) [] []):=hid ⟨⟨CZ.nil _ _,AV.nil _ _,fun x hx=>absurd hx List.not_mem_nil,fun x hx=>absurd hx List.not_mem_nil,fun x hx=>absurd hx List.not_mem_nil,fun x hx=>absurd hx List.not_mem_nil⟩,fun i hi=>absurd hi (Nat.not_lt_zero i),fun i hi=>absurd hi (Nat.not_lt_zero i),((Ah.new w n3).alloc _).alloc _,(by have:=(Ah.new (w.alloc n3) n2).alloc n2;simpa using this),(by have:=Ah.new ((w.alloc n3).alloc n2) n2;simpa using this),b0⟩;clear hk hs b0;unfold Av.val;go_enter func81,ntmps81
 go_wp2;go_loopw [4] (fun i wr=>∃(lt:List Ae) (ta:Option Addr) (ca:Nat),lt.length<=k.tn/\i= .int .i64 lt.length/\IN w k wr (.slice ta lt.length ca) (.slice none 0 0) lt []) (fun i _=>k.tn-(intOf i).toNat)
 case atStart=>exact⟨[],none,0,Nat.zero_le _,rfl,S0⟩
 case round=>
  clear S0;obtain⟨lt,ta,ca,hl,rfl,st⟩:=hrel;have S1:=hid st;clear st;by_cases hlt:lt.length<k.tn
  ·have i1:(lt.length:Int)<(k.tn:Int):=(by omega);have i0:(0:Int)<=(lt.length:Int):=(by omega);obtain⟨b,off,ea,hbl,hc⟩:=HT.out (by omega);have bd:Below wr wr wr.drew:=(Below.refl _ wr).drew;have SD:=hid (S1.out.below bd);have CC:FH wr.drew b (off+lt.length*7) (k.T lt.length):=(hc lt.length hlt).1.below hbl ((Below.refl _ w).trans (SD.out.be.mono (Nat.le_refl _)));have q0:wr.drew.cell? ⟨b,off+lt.length*7,none⟩=some (.int .i64 (k.T lt.length).id):=CC.c0;have q1:wr.drew.cell? ⟨b,off+lt.length*7+1,none⟩=some (.int .i64 (k.T lt.length).b1):=CC.c1;have q2:wr.drew.cell? ⟨b,off+lt.length*7+2,none⟩=some (.slice (k.T lt.length).c1.a (k.T lt.length).c1.n (k.T lt.length).c1.k):=CC.c2;have q3:wr.drew.cell? ⟨b,off+lt.length*7+3,none⟩=some (.int .i64 (k.T lt.length).b2):=CC.c3;have q4:wr.drew.cell? ⟨b,off+lt.length*7+4,none⟩=some (.slice (k.T lt.length).c2.a (k.T lt.length).c2.n (k.T lt.length).c2.k):=CC.c4;have q5:wr.drew.cell? ⟨b,off+lt.length*7+5,none⟩=some (.slice (k.T lt.length).own.a (k.T lt.length).own.n (k.T lt.length).own.k):=CC.c5;have q6:wr.drew.cell? ⟨b,off+lt.length*7+6,none⟩=some (.int .i64 (k.T lt.length).made):=CC.c6;have hbw:b<wr.heap.size:=Nat.lt_of_lt_of_le hbl S1.out.be.size;obtain⟨a0,a1⟩:=S1.out.a.two;obtain⟨x0,x1⟩:=SD.out.a.two;obtain⟨y0,y1⟩:=SD.out.o.two;have CP:Hid (Calls prog 115 #[.agg #[.int .i64 (k.T lt.length).id,.int .i64 (k.T lt.length).b1,.slice (k.T lt.length).c1.a (k.T lt.length).c1.n (k.T lt.length).c1.k,.int .i64 (k.T lt.length).b2,.slice (k.T lt.length).c2.a (k.T lt.length).c2.n (k.T lt.length).c2.k,.slice (k.T lt.length).own.a (k.T lt.length).own.n (k.T lt.length).own.k,.int .i64 (k.T lt.length).made]] wr.drew fun e w'=>∃v,e= .returned v/\(∃u:Ae,v= .agg #[u.id,u.b1,.slice u.c1.a u.c1.n u.c1.k,u.b2,.slice u.c2.a u.c2.n u.c2.k,.slice u.own.a u.own.n u.own.k,u.made]/\(k.T lt.length).same u/\u.new wr.drew.heap.size w'/\(u.own.n<=u.own.k/\u.own.k<=maxLen)/\Below wr.drew.heap.size wr.drew w')):=hid ((J6 (k.T lt.length) wr.drew ((hc lt.length hlt).2.below SD.out.be) (SMALL.out.1.2 lt.length hlt)).mono fun _ _ ⟨u,e1,h1,h2,h3,h4⟩=>⟨_,e1,u,rfl,h1,h2,h3,h4⟩);have EG:Hid (∀args w,(callFunc 115 args).run prog w= .ok (.enter 115 args) w):=hid (enters_of func115 (by kernel_rfl) rfl);have lm:lt.length<=1048576:=(by have:=SMALL.out.1.1;omega);rw[ea]at a0 x0;clear hc CC ea bd;have sz0:=S1.out.be.size;go_wp2_with fail
   go_region_law(first
    |(refine Dy (by rfl) 115 _ _ (by rfl) EG _ (by rfl) _ CP ?_;rintro v w5 ⟨u,rfl,su,nu,cu,b5⟩;have CU:=hid cu;have S5:=hid (SD.out.below b5);have S5a:=hid ((SD.out.below b5).below ((Below.refl _ w5).alloc (Nat.le_refl _) (.cells #[u.id,u.b1,.slice u.c1.a u.c1.n u.c1.k,u.b2,.slice u.c2.a u.c2.n u.c2.k,.slice u.own.a u.own.n u.own.k,u.made] 42)));have N5:=hid ((nu.low SD.out.be.size).keeps (CG.of_below ((Below.refl _ w5).alloc (Nat.le_refl _) (.cells #[u.id,u.b1,.slice u.c1.a u.c1.n u.c1.k,u.b2,.slice u.c2.a u.c2.n u.c2.k,.slice u.own.a u.own.n u.own.k,u.made] 42))).l);have SU:=hid su;have ONE:Hid (Bh (w5.alloc (.cells #[u.id,u.b1,.slice u.c1.a u.c1.n u.c1.k,u.b2,.slice u.c2.a u.c2.n u.c2.k,.slice u.own.a u.own.n u.own.k,u.made] 42)) (some ⟨w5,0,none⟩) 1 (BJ [u])):=hid (CZ.one w5 u);have s5:w.heap.size<=(w5.alloc (.cells #[u.id,u.b1,.slice u.c1.a u.c1.n u.c1.k,u.b2,.slice u.c2.a u.c2.n u.c2.k,.slice u.own.a u.own.n u.own.k,u.made] 42)).heap.size:=S5a.out.be.size;obtain⟨m0,m1⟩:=S5.out.o.two;obtain⟨n0,n1⟩:=S5a.out.o.two;clear su nu b5 cu)
    |(refine Hj (by rfl) _ _ (by rfl) w (.slice ta lt.length ca) lt (by rfl) S5a.out.st.t _ _ u (by rfl) ONE lm s5 ?_;intro a7 c7 w7 o7 g7;have AD:=S5a.out.addT o7 g7 N5 SU CU.out;have S7:=hid AD.2;obtain⟨z0,z1⟩:=AD.1.two;have zf:=AD.1.warm;clear AD o7 g7))
   all_goals(
    clear m0 m1 n0 n1 x0 x1 y0 y1 q0 q1 q2 q3 q4 q5 q6 a0 a1;go_wp2;go_roundw;case rel=>exact⟨lt++[u],a7,c7,by simp;omega,by first|go_num|(congr 1;simp),by rw[show(lt++[u]).length=lt.length+1 from by simp];exact S7.out⟩
    case measure=>simp[intOf];omega)
  ·have i1:¬(lt.length:Int)<(k.tn:Int):=(by omega);have ET:Hid (lt.length=k.tn):=hid (by omega);obtain⟨a0,a1⟩:=S1.out.a.two;have ST:=S1;clear S1;go_wp2;clear a0 a1 i1 hlt hl;go_loopw [5] (fun i wr=>∃(lo:List Ab) (oa:Option Addr) (co:Nat),lo.length<=k.on/\i= .int .i64 lo.length/\IN w k wr (.slice ta lt.length ca) (.slice oa lo.length co) lt lo) (fun i _=>k.on-(intOf i).toNat)
   case atStart=>exact⟨[],none,0,Nat.zero_le _,rfl,ST⟩
   case round=>
    clear ST;obtain⟨lo,oa,co,hl,rfl,st⟩:=hrel;have S1:=hid st;clear st;by_cases hlt:lo.length<k.on
    ·have i1:(lo.length:Int)<(k.on:Int):=(by omega);have i0:(0:Int)<=(lo.length:Int):=(by omega);obtain⟨b,off,ea,hbl,hc⟩:=HO.out (by omega);have bd:Below wr wr wr.drew:=(Below.refl _ wr).drew;have SD:=hid (S1.out.below bd);have CC:Cr wr.drew b (off+lo.length*10) (k.O lo.length):=(hc lo.length hlt).1.below hbl ((Below.refl _ w).trans (SD.out.be.mono (Nat.le_refl _)));have q0:wr.drew.cell? ⟨b,off+lo.length*10,none⟩=some (.int .i64 (k.O lo.length).id):=CC.c0;have q1:wr.drew.cell? ⟨b,off+lo.length*10+1,none⟩=some (.int .i64 (k.O lo.length).kind):=CC.c1;have q2:wr.drew.cell? ⟨b,off+lo.length*10+2,none⟩=some (.int .i64 (k.O lo.length).up):=CC.c2;have q3:wr.drew.cell? ⟨b,off+lo.length*10+3,none⟩=some (.int .i64 (k.O lo.length).b1):=CC.c3;have q4:wr.drew.cell? ⟨b,off+lo.length*10+4,none⟩=some (.slice (k.O lo.length).c1.a (k.O lo.length).c1.n (k.O lo.length).c1.k):=CC.c4;have q5:wr.drew.cell? ⟨b,off+lo.length*10+5,none⟩=some (.string (k.O lo.length).data):=CC.c5;have q6:wr.drew.cell? ⟨b,off+lo.length*10+6,none⟩=some (.slice (k.O lo.length).items.a (k.O lo.length).items.n (k.O lo.length).items.k):=CC.c6;have q7:wr.drew.cell? ⟨b,off+lo.length*10+7,none⟩=some (.slice (k.O lo.length).own.a (k.O lo.length).own.n (k.O lo.length).own.k):=CC.c7;have q8:wr.drew.cell? ⟨b,off+lo.length*10+8,none⟩=some (.int .i64 (k.O lo.length).b2):=CC.c8;have q9:wr.drew.cell? ⟨b,off+lo.length*10+9,none⟩=some (.slice (k.O lo.length).c2.a (k.O lo.length).c2.n (k.O lo.length).c2.k):=CC.c9;have hbw:b<wr.heap.size:=Nat.lt_of_lt_of_le hbl S1.out.be.size;obtain⟨a0,a1⟩:=S1.out.a.two;obtain⟨x0,x1⟩:=SD.out.a.two;obtain⟨y0,y1⟩:=SD.out.o.two;have CP:Hid (Calls prog 116 #[.agg #[.int .i64 (k.O lo.length).id,.int .i64 (k.O lo.length).kind,.int .i64 (k.O lo.length).up,.int .i64 (k.O lo.length).b1,.slice (k.O lo.length).c1.a (k.O lo.length).c1.n (k.O lo.length).c1.k,.string (k.O lo.length).data,.slice (k.O lo.length).items.a (k.O lo.length).items.n (k.O lo.length).items.k,.slice (k.O lo.length).own.a (k.O lo.length).own.n (k.O lo.length).own.k,.int .i64 (k.O lo.length).b2,.slice (k.O lo.length).c2.a (k.O lo.length).c2.n (k.O lo.length).c2.k]] wr.drew fun e w'=>∃v,e= .returned v/\(∃u:Ab,v= .agg #[u.id,u.kind,u.up,u.b1,.slice u.c1.a u.c1.n u.c1.k,.string u.data,.slice u.items.a u.items.n u.items.k,.slice u.own.a u.own.n u.own.k,u.b2,.slice u.c2.a u.c2.n u.c2.k]/\(k.O lo.length).same u/\u.new wr.drew.heap.size w'/\(u.items.n<=u.items.k/\u.items.k<=maxLen)/\Below wr.drew.heap.size wr.drew w')):=hid ((JP (k.O lo.length) wr.drew ((hc lo.length hlt).2.below SD.out.be) (SMALL.out.2.2 lo.length hlt)).mono fun _ _ ⟨u,e1,h1,h2,h3,h4⟩=>⟨_,e1,u,rfl,h1,h2,h3,h4⟩);have EG:Hid (∀args w,(callFunc 116 args).run prog w= .ok (.enter 116 args) w):=hid (enters_of func116 (by kernel_rfl) rfl);have lm:lo.length<=1048576:=(by have:=SMALL.out.2.1;omega);rw[ea]at a1 x1;clear hc CC ea bd;have sz0:=S1.out.be.size;go_wp2_with fail
     go_region_law(first
      |(refine Dy (by rfl) 116 _ _ (by rfl) EG _ (by rfl) _ CP ?_;rintro v w5 ⟨u,rfl,su,nu,cu,b5⟩;have CU:=hid cu;have S5:=hid (SD.out.below b5);have S5a:=hid ((SD.out.below b5).below ((Below.refl _ w5).alloc (Nat.le_refl _) (.cells #[u.id,u.kind,u.up,u.b1,.slice u.c1.a u.c1.n u.c1.k,.string u.data,.slice u.items.a u.items.n u.items.k,.slice u.own.a u.own.n u.own.k,u.b2,.slice u.c2.a u.c2.n u.c2.k] 47)));have N5:=hid ((nu.low SD.out.be.size).keeps (CG.of_below ((Below.refl _ w5).alloc (Nat.le_refl _) (.cells #[u.id,u.kind,u.up,u.b1,.slice u.c1.a u.c1.n u.c1.k,.string u.data,.slice u.items.a u.items.n u.items.k,.slice u.own.a u.own.n u.own.k,u.b2,.slice u.c2.a u.c2.n u.c2.k] 47))).l);have SU:=hid su;have ONE:Hid (Bh (w5.alloc (.cells #[u.id,u.kind,u.up,u.b1,.slice u.c1.a u.c1.n u.c1.k,.string u.data,.slice u.items.a u.items.n u.items.k,.slice u.own.a u.own.n u.own.k,u.b2,.slice u.c2.a u.c2.n u.c2.k] 47)) (some ⟨w5,0,none⟩) 1 (AF [u])):=hid (AV.one w5 u);have s5:w.heap.size<=(w5.alloc (.cells #[u.id,u.kind,u.up,u.b1,.slice u.c1.a u.c1.n u.c1.k,.string u.data,.slice u.items.a u.items.n u.items.k,.slice u.own.a u.own.n u.own.k,u.b2,.slice u.c2.a u.c2.n u.c2.k] 47)).heap.size:=S5a.out.be.size;obtain⟨m0,m1⟩:=S5.out.o.two;obtain⟨n0,n1⟩:=S5a.out.o.two;clear su nu b5 cu)
      |(refine GP (by rfl) _ _ (by rfl) w (.slice oa lo.length co) lo (by rfl) S5a.out.st.o _ _ u (by rfl) ONE lm s5 ?_;intro a7 c7 w7 o7 g7;have AD:=S5a.out.addO o7 g7 N5 SU CU.out;have S7:=hid AD.2;obtain⟨z0,z1⟩:=AD.1.two;have zf:=AD.1.warm;clear AD o7 g7))
     all_goals(
      clear m0 m1 n0 n1 x0 x1 y0 y1 q0 q1 q2 q3 q4 q5 q6 q7 q8 q9 a0 a1;go_wp2;go_roundw;case rel=>exact⟨lo++[u],a7,c7,by simp;omega,by first|go_num|(congr 1;simp),by rw[show(lo++[u]).length=lo.length+1 from by simp];exact S7.out⟩
      case measure=>simp[intOf];omega)
    ·have el:lo.length=k.on:=(by omega);have i1:¬(lo.length:Int)<(k.on:Int):=(by omega);have EL:=hid el;obtain⟨a0,a1⟩:=S1.out.a.two;obtain⟨y0,y1⟩:=S1.out.o.two;obtain⟨r0,r1⟩:=S1.out.r.two;have rf:=S1.out.r.warm;clear el;go_wp2;refine bodyPost_ret (Gu _ _ (w.heap.size+1) 2 _ _ Tryz.results81 ((S1.out.r.setAt (i:=0) _).setAt (i:=1) _) rfl) rfl ⟨lt,lo,ta,oa,ca,co,rfl,(S1.out.st.set S1.out.r (.inl rfl) _).set (S1.out.r.setAt (i:=0) _) (.inl rfl) _,⟨ET,fun j hj=>S1.out.st1 j (by rw[ET.out];exact hj),EL,fun j hj=>S1.out.so1 j (by rw[EL.out];exact hj)⟩,?_⟩;exact(S1.out.be.setCell (by dsimp only;omega) _).setCell (by dsimp only;omega) _
def BN(o:Ab):List Ab->List Ab
 |[]=>[o]
 |x::r=>if o.id<x.id then o::x::r else x::BN o r
theorem Nm{o:Ab}:∀{a b:List Ab},(∃y∈a,o.id<y.id)->BN o (a++b)=BN o a++b
 |[],b,h=>by obtain⟨y,hy,_⟩:=h;exact absurd hy List.not_mem_nil
 |x::a,b,h=>by
  show BN o (x::(a++b))=BN o (x::a)++b;unfold BN;split
  ·rfl
  ·rename_i hx;obtain⟨y,hy,hl⟩:=h;rcases List.mem_cons.1 hy with rfl|hy
   ·exact absurd hl hx
   ·rw[Nm ⟨y,hy,hl⟩];rfl
theorem JD{o:Ab}:∀{a b:List Ab},(∀y∈a,¬o.id<y.id)->BN o (a++b)=a++BN o b
 |[],b,_=>rfl
 |x::a,b,h=>by
  show BN o (x::(a++b))=_;rw[BN,if_neg (h x List.mem_cons_self),JD (fun y hy=>h y (List.mem_cons_of_mem _ hy))];rfl
theorem Lj{o:Ab}:∀{a:List Ab},(BN o a).length=a.length+1
 |[]=>rfl
 |x::a=>by
  unfold BN;split
  ·simp
  ·rw[List.length_cons,Lj,List.length_cons]
theorem Mo{o x:Ab}:∀{a:List Ab},x∈BN o a->x=o∨x∈a
 |[],h=> .inl (List.mem_singleton.1 h)
 |y::a,h=>by
  unfold BN at h;split at h
  ·rcases List.mem_cons.1 h with h|h
   ·exact .inl h
   ·exact .inr h
  ·rcases List.mem_cons.1 h with h|h
   ·exact .inr (h▸List.mem_cons_self)
   ·rcases Mo h with h|h
    ·exact .inl h
    ·exact .inr (List.mem_cons_of_mem _ h)
def Av.oL(k:Av)(j:Nat):List Ab:=(List.range j).map k.O
theorem Ik(k:Av)(j:Nat):k.oL (j+1)=k.oL j++[k.O j]:=by unfold Av.oL;rw[List.range_succ,List.map_append];rfl
theorem VD(k:Av)(j:Nat):(k.oL j).length=j:=by simp[Av.oL]
def Kv(k:Av)(o:Ab)(j:Nat):Bool->List Ab->Prop
 |false,l=>l=k.oL j/\∀y∈k.oL j,¬o.id<y.id
 |true,l=>l=BN o (k.oL j)/\∃y∈k.oL j,o.id<y.id
theorem Rx{k:Av}{o:Ab}{j:Nat}{l:List Ab}(h:Kv k o j false l)(hx:¬o.id<(k.O j).id):Kv k o (j+1) false (l++[k.O j]):=by
 refine⟨by rw[Ik,h.1],fun y hy=>?_⟩;rw[Ik]at hy;rcases List.mem_append.1 hy with hy|hy
 ·exact h.2 y hy
 ·rw[List.mem_singleton.1 hy];exact hx
theorem Uq{k:Av}{o:Ab}{j:Nat}{l:List Ab}(h:Kv k o j false l)(hx:o.id<(k.O j).id):Kv k o (j+1) true (l++[o]++[k.O j]):=by
 refine⟨?_,k.O j,by rw[Ik];exact List.mem_append_right _ List.mem_cons_self,hx⟩;rw[Ik,JD h.2,h.1,BN,if_pos hx,List.append_assoc];rfl
theorem Sg{k:Av}{o:Ab}{j:Nat}{l:List Ab}(h:Kv k o j true l):Kv k o (j+1) true (l++[k.O j]):=by
 obtain⟨h1,y,hy,hl⟩:=h;refine⟨by rw[Ik,Nm ⟨y,hy,hl⟩,h1],y,by rw[Ik];exact List.mem_append_left _ hy,hl⟩
theorem TJ{k:Av}{o:Ab}{j:Nat}:∀{b:Bool}{l:List Ab},Kv k o j b l->l.length<=j+1
 |false,_,h=>by rw[h.1,VD];omega
 |true,_,h=>by rw[h.1,Lj,VD];omega
theorem Ub(k:Av)(o:Ab)(w:World)(hk:k.at w)(hn:k.on<=1048000):
 Calls prog 123 #[k.val,.agg #[o.id,o.kind,o.up,o.b1,.slice o.c1.a o.c1.n o.c1.k,.string o.data,.slice o.items.a o.items.n o.items.k,.slice o.own.a o.own.n o.own.k,o.b2,.slice o.c2.a o.c2.n o.c2.k]] w fun e w'=>∃(oa:Option Addr) (co:Nat),e= .returned (.agg #[.slice k.ta k.tn k.tk,.slice oa (BN o (k.oL k.on)).length co])/\AV w' w (.slice oa (BN o (k.oL k.on)).length co) (BN o (k.oL k.on))/\Below w w w':=by
 have n4:No (.cells #[o.id,o.kind,o.up,o.b1,.slice o.c1.a o.c1.n o.c1.k,.string o.data,.slice o.items.a o.items.n o.items.k,.slice o.own.a o.own.n o.own.k,o.b2,.slice o.c2.a o.c2.n o.c2.k] 47):=⟨⟩;have n7:No (.cells #[.slice k.ta k.tn k.tk,.slice k.oa k.on k.ok] 27):=⟨⟩;have n8:No (.cells #[.slice none 0 0,.slice none 0 0] 27):=⟨⟩;have n1:Nw (((w.alloc n7).alloc n4).alloc n8):=⟨⟩;have b0:Below w w n1:=(((Below.refl _ w).alloc (Nat.le_refl _) _).alloc (by simp) _).alloc (by simp;omega) _;have A0:Ah n1 w n7:=((Ah.new w n7).alloc _).alloc _;have P0:Ah n1 (w.heap.size+1) n4:=by have:=(Ah.new (w.alloc n7) n4).alloc n8;simpa using this
 have R0:Ah n1 (w.heap.size+1+1) n8:=by have:=Ah.new ((w.alloc n7).alloc n4) n8;simpa using this
 have HO:=hid (hk.2.2.2.below b0);have HB:=hid b0;have lV:Hid ((n1:World).heap.size=w.heap.size+3):=hid (by simp);have E0:Hid (AV ((n1:World).alloc (.cells #[] 47)) (n1:World).heap.size (.slice (some ⟨w.heap.size+1+1+1,0,none⟩) 0 0) []):=hid (by
  have h:=AV.made n1 (n1:World).heap.size (Nat.le_refl _);rw[show(some ⟨(n1:World).heap.size,0,none⟩:Option Addr)=some ⟨w.heap.size+1+1+1,0,none⟩ from by simp]at h;exact h)
 have BE:=hid ((Below.refl _ n1).alloc (Nat.le_refl _) (.cells #[] 47));have HA:=hid A0;have HP:=hid P0;have HR:=hid R0;unfold Av.val;clear hk b0 A0 P0 R0;go_enter func123,ntmps123
 go_wp2;generalize (n1:World)=V at *;go_loopw [5,6,7] (fun v d i wr=>∃(j:Nat) (b:Bool) (l:List Ab) (la:Option Addr) (lc:Nat),j<=k.on/\i= .int .i64 j/\d= .bool b/\v= .slice la l.length lc/\Kv k o j b l/\AV wr V (.slice la l.length lc) l/\Below V V wr) (fun _ _ i _=>k.on-(intOf i).toNat)
 case atStart=>exact⟨0,false,[],_,0,Nat.zero_le _,rfl,rfl,rfl,⟨rfl,fun y hy=>absurd hy List.not_mem_nil⟩,E0,BE⟩
 case round=>
  clear E0 BE;obtain⟨j,d,l,la,lc,hj,rfl,rfl,rfl,ad,ow,be⟩:=hrel;have AT:=hid ad;have OW:=hid ow;have BB:=hid be;have ll:l.length<=1048575:=by have:=TJ ad;omega
  have ll2:l.length+1<=1048576:=by omega
  clear ad ow be;obtain⟨a0,a1⟩:=(HA.out.below BB).two;have PB:=hid (HP.out.below BB);obtain⟨o0,o1,o2,o3,o4,o5,o6,o7,o8,o9⟩:=PB.out.ten;by_cases hlt:j<k.on
  ·have i1:(j:Int)<(k.on:Int):=(by omega);have i0:(0:Int)<=(j:Int):=(by omega);obtain⟨b,off,ea,hbl,hc⟩:=HO.out (by omega);have CC:Cr wr b (off+j*10) (k.O j):=(hc j hlt).1.below hbl BB.out;have q0:wr.cell? ⟨b,off+j*10,none⟩=some (.int .i64 (k.O j).id):=CC.c0;have q1:wr.cell? ⟨b,off+j*10+1,none⟩=some (.int .i64 (k.O j).kind):=CC.c1;have q2:wr.cell? ⟨b,off+j*10+2,none⟩=some (.int .i64 (k.O j).up):=CC.c2;have q3:wr.cell? ⟨b,off+j*10+3,none⟩=some (.int .i64 (k.O j).b1):=CC.c3;have q4:wr.cell? ⟨b,off+j*10+4,none⟩=some (.slice (k.O j).c1.a (k.O j).c1.n (k.O j).c1.k):=CC.c4;have q5:wr.cell? ⟨b,off+j*10+5,none⟩=some (.string (k.O j).data):=CC.c5;have q6:wr.cell? ⟨b,off+j*10+6,none⟩=some (.slice (k.O j).items.a (k.O j).items.n (k.O j).items.k):=CC.c6;have q7:wr.cell? ⟨b,off+j*10+7,none⟩=some (.slice (k.O j).own.a (k.O j).own.n (k.O j).own.k):=CC.c7;have q8:wr.cell? ⟨b,off+j*10+8,none⟩=some (.int .i64 (k.O j).b2):=CC.c8;have q9:wr.cell? ⟨b,off+j*10+9,none⟩=some (.slice (k.O j).c2.a (k.O j).c2.n (k.O j).c2.k):=CC.c9;rw[ea]at a1;have hbw:b<wr.heap.size:=Nat.lt_of_lt_of_le hbl BB.out.size;have HLT:=hid hlt;have EA:=hid ea;have HC:Hid (∀X,Below V V X->Cr X b (off+j*10) (k.O j)):=hid (fun X hX=>(hc j HLT).1.below hbl hX);clear hc CC ea hlt;cases d with
   |true=>
    go_wp2_with fail
    go_quiet(fail)
    have bn:Below wr wr (wr.drewN nq):=below_drewN (Below.refl _ wr) nq;have OWn:=hid (OW.out.below bn);have BBn:=hid (BB.out.trans (bn.mono BB.out.size));clear a0 a1 q0 q1 q2 q3 q4 q5 q6 q7 q8 q9 o0 o1 o2 o3 o4 o5 o6 o7 o8 o9 PB;clear bn OW BB;generalize wr.drewN nq=W at *;obtain⟨a0,a1⟩:=(HA.out.below BBn).two;rw[EA.out]at a1;have PB:=hid (HP.out.below BBn);obtain⟨o0,o1,o2,o3,o4,o5,o6,o7,o8,o9⟩:=PB.out.ten;have CD:Cr W b (off+j*10) (k.O j):=HC.out W BBn.out;have q0:W.cell? ⟨b,off+j*10,none⟩=some (.int .i64 (k.O j).id):=CD.c0;have q1:W.cell? ⟨b,off+j*10+1,none⟩=some (.int .i64 (k.O j).kind):=CD.c1;have q2:W.cell? ⟨b,off+j*10+2,none⟩=some (.int .i64 (k.O j).up):=CD.c2;have q3:W.cell? ⟨b,off+j*10+3,none⟩=some (.int .i64 (k.O j).b1):=CD.c3;have q4:W.cell? ⟨b,off+j*10+4,none⟩=some (.slice (k.O j).c1.a (k.O j).c1.n (k.O j).c1.k):=CD.c4;have q5:W.cell? ⟨b,off+j*10+5,none⟩=some (.string (k.O j).data):=CD.c5;have q6:W.cell? ⟨b,off+j*10+6,none⟩=some (.slice (k.O j).items.a (k.O j).items.n (k.O j).items.k):=CD.c6;have q7:W.cell? ⟨b,off+j*10+7,none⟩=some (.slice (k.O j).own.a (k.O j).own.n (k.O j).own.k):=CD.c7;have q8:W.cell? ⟨b,off+j*10+8,none⟩=some (.int .i64 (k.O j).b2):=CD.c8;have q9:W.cell? ⟨b,off+j*10+9,none⟩=some (.slice (k.O j).c2.a (k.O j).c2.n (k.O j).c2.k):=CD.c9;clear CD;have sV:V.heap.size<=W.heap.size:=BBn.out.size;have n2:No (.cells #[.int .i64 (k.O j).id,.int .i64 (k.O j).kind,.int .i64 (k.O j).up,.int .i64 (k.O j).b1,.slice (k.O j).c1.a (k.O j).c1.n (k.O j).c1.k,.string (k.O j).data,.slice (k.O j).items.a (k.O j).items.n (k.O j).items.k,.slice (k.O j).own.a (k.O j).own.n (k.O j).own.k,.int .i64 (k.O j).b2,.slice (k.O j).c2.a (k.O j).c2.n (k.O j).c2.k] 47):=⟨⟩;have QO:=hid (OWn.out.below ((Below.refl _ W).alloc (Nat.le_refl _) n2));have QL:Hid (Bh (W.alloc n2) (some ⟨W,0,none⟩) 1 (AF [k.O j])):=hid (AV.one W (k.O j));have sQ:V.heap.size<=(W.alloc n2).heap.size:=(by simp;omega);have bQ:=hid (BBn.out.alloc BBn.out.size n2);go_wp2_with(at_builtin;refine Ci _ rfl _ _ rfl V (.slice la l.length lc) l rfl QO _ _ (k.O j) rfl QL (by omega) sQ ?_;intro a7 c7 w7 o7 g7;have O7:=hid o7;have B7:Hid (Below V V w7):=hid (bQ.out.trans (below_grown g7 sQ (fun j e=>(World.ownsRow.lt QO j e).1)));clear o7 g7)
    go_roundw;case rel=>exact⟨j+1,true,l++[k.O j],a7,c7,by have:=HLT.out;omega,by go_num,rfl,by simp,Sg AT,by rw[show(l++[k.O j]).length=l.length+1 from by simp];exact O7.out,B7⟩
    case measure=>have:=HLT.out;simp[intOf];omega
   |false=>
    by_cases hx:o.id<(k.O j).id
    ·have hx':decide (o.id<(k.O j).id)=true:=decide_eq_true hx;have HX:=hid hx;go_wp2_with fail
     go_quiet(fail)
     have bn:Below wr wr (wr.drewN nq):=below_drewN (Below.refl _ wr) nq;have OWn:=hid (OW.out.below bn);have BBn:=hid (BB.out.trans (bn.mono BB.out.size));clear a0 a1 q0 q1 q2 q3 q4 q5 q6 q7 q8 q9 o0 o1 o2 o3 o4 o5 o6 o7 o8 o9 PB;clear bn OW BB;generalize wr.drewN nq=W at *;obtain⟨a0,a1⟩:=(HA.out.below BBn).two;rw[EA.out]at a1;have PB:=hid (HP.out.below BBn);obtain⟨o0,o1,o2,o3,o4,o5,o6,o7,o8,o9⟩:=PB.out.ten;have CD:Cr W b (off+j*10) (k.O j):=HC.out W BBn.out;have q0:W.cell? ⟨b,off+j*10,none⟩=some (.int .i64 (k.O j).id):=CD.c0;have q1:W.cell? ⟨b,off+j*10+1,none⟩=some (.int .i64 (k.O j).kind):=CD.c1;have q2:W.cell? ⟨b,off+j*10+2,none⟩=some (.int .i64 (k.O j).up):=CD.c2;have q3:W.cell? ⟨b,off+j*10+3,none⟩=some (.int .i64 (k.O j).b1):=CD.c3;have q4:W.cell? ⟨b,off+j*10+4,none⟩=some (.slice (k.O j).c1.a (k.O j).c1.n (k.O j).c1.k):=CD.c4;have q5:W.cell? ⟨b,off+j*10+5,none⟩=some (.string (k.O j).data):=CD.c5;have q6:W.cell? ⟨b,off+j*10+6,none⟩=some (.slice (k.O j).items.a (k.O j).items.n (k.O j).items.k):=CD.c6;have q7:W.cell? ⟨b,off+j*10+7,none⟩=some (.slice (k.O j).own.a (k.O j).own.n (k.O j).own.k):=CD.c7;have q8:W.cell? ⟨b,off+j*10+8,none⟩=some (.int .i64 (k.O j).b2):=CD.c8;have q9:W.cell? ⟨b,off+j*10+9,none⟩=some (.slice (k.O j).c2.a (k.O j).c2.n (k.O j).c2.k):=CD.c9;clear CD;have sV:V.heap.size<=W.heap.size:=BBn.out.size;have mk1:True:=trivial;have n5:No (.cells #[o.id,o.kind,o.up,o.b1,.slice o.c1.a o.c1.n o.c1.k,.string o.data,.slice o.items.a o.items.n o.items.k,.slice o.own.a o.own.n o.own.k,o.b2,.slice o.c2.a o.c2.n o.c2.k] 47):=⟨⟩;have PO:=hid (OWn.out.below ((Below.refl _ W).alloc (Nat.le_refl _) n5));have PL:Hid (Bh (W.alloc n5) (some ⟨W,0,none⟩) 1 (AF [o])):=hid (AV.one W o);have sP:V.heap.size<=(W.alloc n5).heap.size:=(by simp;omega);have bP:=hid (BBn.out.alloc BBn.out.size n5);go_wp2_with(first
      |(at_builtin;have mq:=mk1;clear mk1 mq;refine Ci _ rfl _ _ rfl V (.slice la l.length lc) l rfl PO _ _ o rfl PL (by omega) sP ?_;intro a6 c6 w6 ow6 g6;have B6:Hid (Below V V w6):=hid (bP.out.trans (below_grown g6 sP (fun j e=>(World.ownsRow.lt PO j e).1)));have O6:=hid (ow6.below ((Below.refl _ w6).alloc (Nat.le_refl _) (.cells #[.int .i64 (k.O j).id,.int .i64 (k.O j).kind,.int .i64 (k.O j).up,.int .i64 (k.O j).b1,.slice (k.O j).c1.a (k.O j).c1.n (k.O j).c1.k,.string (k.O j).data,.slice (k.O j).items.a (k.O j).items.n (k.O j).items.k,.slice (k.O j).own.a (k.O j).own.n (k.O j).own.k,.int .i64 (k.O j).b2,.slice (k.O j).c2.a (k.O j).c2.n (k.O j).c2.k] 47)));have QL:Hid (Bh (w6.alloc (.cells #[.int .i64 (k.O j).id,.int .i64 (k.O j).kind,.int .i64 (k.O j).up,.int .i64 (k.O j).b1,.slice (k.O j).c1.a (k.O j).c1.n (k.O j).c1.k,.string (k.O j).data,.slice (k.O j).items.a (k.O j).items.n (k.O j).items.k,.slice (k.O j).own.a (k.O j).own.n (k.O j).own.k,.int .i64 (k.O j).b2,.slice (k.O j).c2.a (k.O j).c2.n (k.O j).c2.k] 47)) (some ⟨w6,0,none⟩) 1 (AF [k.O j])):=hid (AV.one w6 (k.O j));have s6:V.heap.size<=w6.heap.size:=B6.out.size;have sQ:V.heap.size<=(w6.alloc (.cells #[.int .i64 (k.O j).id,.int .i64 (k.O j).kind,.int .i64 (k.O j).up,.int .i64 (k.O j).b1,.slice (k.O j).c1.a (k.O j).c1.n (k.O j).c1.k,.string (k.O j).data,.slice (k.O j).items.a (k.O j).items.n (k.O j).items.k,.slice (k.O j).own.a (k.O j).own.n (k.O j).own.k,.int .i64 (k.O j).b2,.slice (k.O j).c2.a (k.O j).c2.n (k.O j).c2.k] 47)).heap.size:=(by simp;omega);have bQ:=hid (B6.out.alloc B6.out.size (.cells #[.int .i64 (k.O j).id,.int .i64 (k.O j).kind,.int .i64 (k.O j).up,.int .i64 (k.O j).b1,.slice (k.O j).c1.a (k.O j).c1.n (k.O j).c1.k,.string (k.O j).data,.slice (k.O j).items.a (k.O j).items.n (k.O j).items.k,.slice (k.O j).own.a (k.O j).own.n (k.O j).own.k,.int .i64 (k.O j).b2,.slice (k.O j).c2.a (k.O j).c2.n (k.O j).c2.k] 47));clear ow6 g6 a0 a1 q0 q1 q2 q3 q4 q5 q6 q7 q8 q9 o0 o1 o2 o3 o4 o5 o6 o7 o8 o9;obtain⟨a0,a1⟩:=(HA.out.below B6).two;rw[EA.out]at a1;have CE:Cr w6 b (off+j*10) (k.O j):=HC.out w6 B6.out;have q0:w6.cell? ⟨b,off+j*10,none⟩=some (.int .i64 (k.O j).id):=CE.c0;have q1:w6.cell? ⟨b,off+j*10+1,none⟩=some (.int .i64 (k.O j).kind):=CE.c1;have q2:w6.cell? ⟨b,off+j*10+2,none⟩=some (.int .i64 (k.O j).up):=CE.c2;have q3:w6.cell? ⟨b,off+j*10+3,none⟩=some (.int .i64 (k.O j).b1):=CE.c3;have q4:w6.cell? ⟨b,off+j*10+4,none⟩=some (.slice (k.O j).c1.a (k.O j).c1.n (k.O j).c1.k):=CE.c4;have q5:w6.cell? ⟨b,off+j*10+5,none⟩=some (.string (k.O j).data):=CE.c5;have q6:w6.cell? ⟨b,off+j*10+6,none⟩=some (.slice (k.O j).items.a (k.O j).items.n (k.O j).items.k):=CE.c6;have q7:w6.cell? ⟨b,off+j*10+7,none⟩=some (.slice (k.O j).own.a (k.O j).own.n (k.O j).own.k):=CE.c7;have q8:w6.cell? ⟨b,off+j*10+8,none⟩=some (.int .i64 (k.O j).b2):=CE.c8;have q9:w6.cell? ⟨b,off+j*10+9,none⟩=some (.slice (k.O j).c2.a (k.O j).c2.n (k.O j).c2.k):=CE.c9;clear CE;have l6:(l++[o]).length<=1048576:=(by simp;omega);have mk2:True:=trivial)
      |(at_builtin;have mq:=mk2;refine Ci _ rfl _ _ rfl V (.slice a6 (l.length+1) c6) (l++[o]) rfl O6 _ _ (k.O j) rfl QL l6 sQ ?_;intro a7 c7 w7 o7 g7;have O7:=hid o7;have B7:Hid (Below V V w7):=hid (bQ.out.trans (below_grown g7 sQ (fun j e=>(World.ownsRow.lt O6 j e).1)));clear o7 g7))
     go_roundw;case rel=>exact⟨j+1,true,l++[o]++[k.O j],a7,c7,by have:=HLT.out;omega,by go_num,rfl,by simp,Uq AT HX,by rw[show(l++[o]++[k.O j]).length=(l++[o]).length+1 from by simp];exact O7.out,B7⟩
     case measure=>have:=HLT.out;simp[intOf];omega
    ·have hx':decide (o.id<(k.O j).id)=false:=decide_eq_false hx;have HX:=hid hx;go_wp2_with fail
     go_quiet(fail)
     have bn:Below wr wr (wr.drewN nq):=below_drewN (Below.refl _ wr) nq;have OWn:=hid (OW.out.below bn);have BBn:=hid (BB.out.trans (bn.mono BB.out.size));clear a0 a1 q0 q1 q2 q3 q4 q5 q6 q7 q8 q9 o0 o1 o2 o3 o4 o5 o6 o7 o8 o9 PB;clear bn OW BB;generalize wr.drewN nq=W at *;obtain⟨a0,a1⟩:=(HA.out.below BBn).two;rw[EA.out]at a1;have PB:=hid (HP.out.below BBn);obtain⟨o0,o1,o2,o3,o4,o5,o6,o7,o8,o9⟩:=PB.out.ten;have CD:Cr W b (off+j*10) (k.O j):=HC.out W BBn.out;have q0:W.cell? ⟨b,off+j*10,none⟩=some (.int .i64 (k.O j).id):=CD.c0;have q1:W.cell? ⟨b,off+j*10+1,none⟩=some (.int .i64 (k.O j).kind):=CD.c1;have q2:W.cell? ⟨b,off+j*10+2,none⟩=some (.int .i64 (k.O j).up):=CD.c2;have q3:W.cell? ⟨b,off+j*10+3,none⟩=some (.int .i64 (k.O j).b1):=CD.c3;have q4:W.cell? ⟨b,off+j*10+4,none⟩=some (.slice (k.O j).c1.a (k.O j).c1.n (k.O j).c1.k):=CD.c4;have q5:W.cell? ⟨b,off+j*10+5,none⟩=some (.string (k.O j).data):=CD.c5;have q6:W.cell? ⟨b,off+j*10+6,none⟩=some (.slice (k.O j).items.a (k.O j).items.n (k.O j).items.k):=CD.c6;have q7:W.cell? ⟨b,off+j*10+7,none⟩=some (.slice (k.O j).own.a (k.O j).own.n (k.O j).own.k):=CD.c7;have q8:W.cell? ⟨b,off+j*10+8,none⟩=some (.int .i64 (k.O j).b2):=CD.c8;have q9:W.cell? ⟨b,off+j*10+9,none⟩=some (.slice (k.O j).c2.a (k.O j).c2.n (k.O j).c2.k):=CD.c9;clear CD;have sV:V.heap.size<=W.heap.size:=BBn.out.size;have n3:No (.cells #[.int .i64 (k.O j).id,.int .i64 (k.O j).kind,.int .i64 (k.O j).up,.int .i64 (k.O j).b1,.slice (k.O j).c1.a (k.O j).c1.n (k.O j).c1.k,.string (k.O j).data,.slice (k.O j).items.a (k.O j).items.n (k.O j).items.k,.slice (k.O j).own.a (k.O j).own.n (k.O j).own.k,.int .i64 (k.O j).b2,.slice (k.O j).c2.a (k.O j).c2.n (k.O j).c2.k] 47):=⟨⟩;have QO:=hid (OWn.out.below ((Below.refl _ W).alloc (Nat.le_refl _) n3));have QL:Hid (Bh (W.alloc n3) (some ⟨W,0,none⟩) 1 (AF [k.O j])):=hid (AV.one W (k.O j));have sQ:V.heap.size<=(W.alloc n3).heap.size:=(by simp;omega);have bQ:=hid (BBn.out.alloc BBn.out.size n3);go_wp2_with(at_builtin;refine Ci _ rfl _ _ rfl V (.slice la l.length lc) l rfl QO _ _ (k.O j) rfl QL (by omega) sQ ?_;intro a7 c7 w7 o7 g7;have O7:=hid o7;have B7:Hid (Below V V w7):=hid (bQ.out.trans (below_grown g7 sQ (fun j e=>(World.ownsRow.lt QO j e).1)));clear o7 g7)
     go_roundw;case rel=>exact⟨j+1,false,l++[k.O j],a7,c7,by have:=HLT.out;omega,by go_num,rfl,by simp,Rx AT (Int.not_lt.2 HX),by rw[show(l++[k.O j]).length=l.length+1 from by simp];exact O7.out,B7⟩
     case measure=>have:=HLT.out;simp[intOf];omega
  ·obtain rfl:j=k.on:=by omega
   have i1:¬(k.on:Int)<(k.on:Int):=(by omega);have rA:=(HA.out.below BB).warm;obtain⟨r0,r1⟩:=(HR.out.below BB).two;have rf:=(HR.out.below BB).warm;cases d with
   |true=>
    have EL:Hid ((BN o (k.oL k.on)).length=l.length/\BN o (k.oL k.on)=l):=hid ⟨by rw[AT.out.1],AT.out.1.symm⟩;go_wp2;have KB:=hid (HA.out.below BB);have RB:=hid ((HR.out.below BB).other (Q:=w.heap.size) (i:=1) (by omega) (.slice la l.length lc));have FO:=hid (((AV.set OW KB (i:=1) (by decide) (.slice la l.length lc)).set RB (i:=0) (by decide) (.slice k.ta k.tn k.tk)).set (RB.out.setAt (i:=0) (.slice k.ta k.tn k.tk)) (i:=1) (by decide) (.slice la l.length lc));refine bodyPost_ret (Gu _ _ (w.heap.size+1+1) 4 _ _ Tryz.results123 ((RB.out.setAt (i:=0) _).setAt (i:=1) _) rfl) rfl ⟨la,lc,by rw[EL.out.1],by rw[EL.out.2];exact FO.out.base HB.out.size,?_⟩;iterate 3 refine Below.setCell ?_ (by dsimp only;omega) _
    exact HB.out.trans (BB.out.mono HB.out.size)
   |false=>
    have EL:Hid ((BN o (k.oL k.on)).length=l.length+1/\BN o (k.oL k.on)=l++[o]):=hid (by
     have h:BN o (k.oL k.on)=l++[o]:=by
      have:=JD (b:=[]) AT.out.2;rw[List.append_nil]at this;rw[this,AT.out.1];rfl
     exact⟨by rw[h];simp,h⟩)
    have n6:No (.cells #[o.id,o.kind,o.up,o.b1,.slice o.c1.a o.c1.n o.c1.k,.string o.data,.slice o.items.a o.items.n o.items.k,.slice o.own.a o.own.n o.own.k,o.b2,.slice o.c2.a o.c2.n o.c2.k] 47):=⟨⟩;have PO:=hid (OW.out.below ((Below.refl _ wr).alloc (Nat.le_refl _) n6));have PL:Hid (Bh (wr.alloc n6) (some ⟨wr,0,none⟩) 1 (AF [o])):=hid (AV.one wr o);have sV:V.heap.size<=wr.heap.size:=BB.out.size;have sP:V.heap.size<=(wr.alloc n6).heap.size:=(by simp;omega);have bP:=hid (BB.out.alloc BB.out.size n6);go_wp2_with(at_builtin;refine Ci _ rfl _ _ rfl V (.slice la l.length lc) l rfl PO _ _ o rfl PL (by omega) sP ?_;intro a6 c6 w6 ow6 g6;have B6:Hid (Below V V w6):=hid (bP.out.trans (below_grown g6 sP (fun j e=>(World.ownsRow.lt PO j e).1)));have O6:=hid ow6;clear ow6 g6 a0 a1 o0 o1 o2 o3 o4 o5 o6 o7 o8 o9 r0 r1 rf rA;obtain⟨a0,a1⟩:=(HA.out.below B6).two;have rA:=(HA.out.below B6).warm;obtain⟨r0,r1⟩:=(HR.out.below B6).two;have rf:=(HR.out.below B6).warm)
    have KB:=hid (HA.out.below B6);have n9:Nv (.slice a6 (l.length+1) c6):=⟨⟩;have RB:=hid ((HR.out.below B6).other (Q:=w.heap.size) (i:=1) (by omega) n9);have FO:=hid (((AV.set O6 KB (i:=1) (by decide) n9).set RB (i:=0) (by decide) (.slice k.ta k.tn k.tk)).set (RB.out.setAt (i:=0) (.slice k.ta k.tn k.tk)) (i:=1) (by decide) n9);refine bodyPost_ret (Gu _ _ (w.heap.size+1+1) 4 _ _ Tryz.results123 ((RB.out.setAt (i:=0) _).setAt (i:=1) _) rfl) rfl ⟨a6,c6,by rw[EL.out.1],by rw[EL.out.1,EL.out.2];exact FO.out.base HB.out.size,?_⟩;iterate 3 refine Below.setCell ?_ (by dsimp only;omega) _
    exact HB.out.trans (B6.out.mono HB.out.size)
structure Al where
 th:Int
 kind:Int
 id:Int
 «to»:Int
 cat:Int
 data:ByteArray
 b1:Int
 c1:As
 b2:Int
 c2:As
def Al.cells(s:Al):Array Value:=#[s.th,s.kind,s.id,s.to,s.cat,.string s.data,s.b1,.slice s.c1.a s.c1.n s.c1.k,s.b2,.slice s.c2.a s.c2.n s.c2.k]
def Al.at(w:World)(s:Al):Prop:=s.c1.at w/\s.c2.at w/\s.data.size<=maxLen
theorem Al.at.below{w w':World}{s:Al}(h:s.at w)(hb:Below w w w'):s.at w':=⟨h.1.below hb,h.2.1.below hb,h.2.2⟩
theorem Cw{α:Type}{f:α->List Value}{c:Nat}(hl:∀x,(f x).length=c):∀{l:List α}{t i:Nat}{x:α}{u:Value} (ht:t<l.length),i<c->f x=(f l[t]).set i u->((l.map f).flatten).set (t*c+i) u=((l.set t x).map f).flatten
 |[],t,_,_,_,ht,_,_=>absurd ht (Nat.not_lt_zero t)
 |y::r,0,i,x,u,_,hi,h=>by
  show(f y++(r.map f).flatten).set (0*c+i) u=f x++(r.map f).flatten;rw[Nat.zero_mul,Nat.zero_add,List.set_append_left _ _ (by rw[hl];exact hi)];have h':f x=(f y).set i u:=h;rw[h']
 |y::r,t+1,i,x,u,ht,hi,h=>by
  show(f y++(r.map f).flatten).set ((t+1)*c+i) u=f y++((r.set t x).map f).flatten;have e:(t+1)*c+i=(f y).length+(t*c+i):=by rw[hl,Nat.succ_mul];omega
  rw[e,List.set_append_right _ _ (by omega),Nat.add_sub_cancel_left];rw[Cw hl (l:=r) (t:=t) (x:=x) (by simpa using ht) hi h]
theorem Ae.cs_len(x:Ae):x.cs.length=7:=rfl
theorem Ab.cs_len(x:Ab):x.cs.length=10:=rfl
theorem Ea{α:Type}{l:List α}{t:Nat}{x y:α}(h:y∈l.set t x):y=x∨y∈l:=by
 rcases List.mem_or_eq_of_mem_set h with h|h
 ·exact .inr h
 ·exact .inl h
theorem Bu.setT{w:World}{B g ca:Nat}{vo:Value}{lt:List Ae}{lo:List Ab}(h:Bu w B (.slice (some ⟨g,0,none⟩) lt.length ca) vo lt lo){t i:Nat}{x:Ae}{u:Value}(ht:t<lt.length)(hi:i<7)(hcs:x.cs=(lt[t]).cs.set i u)(hx:x.new B w)(hc:x.own.n<=x.own.k/\x.own.k<=maxLen):
 Bu (w.setCell ⟨g,t*7+i,none⟩ u) B (.slice (some ⟨g,0,none⟩) (lt.set t x).length ca) vo (lt.set t x) lo/\(∃cur,Ah w g (.cells cur 42))/\B<=g:=by
 have hg:∃cur,Ah w g (.cells cur 42):=by
  rcases h.t.2 with⟨hv,_⟩|⟨g',cap,cur,hv,_,hgg,_⟩
  ·cases hv
  ·cases hv;exact⟨cur,hgg⟩
 have hBg:B<=g:=(World.ownsRow.lt h.t g rfl).1;obtain⟨cur,hcur⟩:=hg;have kl:=Ao (i:=t*7+i) hcur (by decide) u;have el:(lt.set t x).length=lt.length:=by simp
 have ho:=(World.ownsRow.stored h.t (t*7+i) u).1;refine⟨⟨?_,h.o.set hcur (by decide) u,fun y hy=>?_,fun y hy=>(h.on y hy).keeps kl,fun y hy=>?_,h.oc⟩,⟨cur,hcur⟩,hBg⟩
 ·unfold CZ;rw[el];have e:=Cw (f:=Ae.cs) Ae.cs_len (l:=lt) (t:=t) (x:=x) (u:=u) ht hi hcs;unfold BJ;rw[<-e];exact ho
 ·rcases Ea hy with rfl|hy
  ·exact hx.keeps kl
  ·exact(h.tn y hy).keeps kl
 ·rcases Ea hy with rfl|hy
  ·exact hc
  ·exact h.tc y hy
theorem Bu.setO{w:World}{B g co:Nat}{vt:Value}{lt:List Ae}{lo:List Ab}(h:Bu w B vt (.slice (some ⟨g,0,none⟩) lo.length co) lt lo){t i:Nat}{x:Ab}{u:Value}(ht:t<lo.length)(hi:i<10)(hcs:x.cs=(lo[t]).cs.set i u)(hx:x.new B w)(hc:x.items.n<=x.items.k/\x.items.k<=maxLen):
 Bu (w.setCell ⟨g,t*10+i,none⟩ u) B vt (.slice (some ⟨g,0,none⟩) (lo.set t x).length co) lt (lo.set t x)/\(∃cur,Ah w g (.cells cur 47))/\B<=g:=by
 have hg:∃cur,Ah w g (.cells cur 47):=by
  rcases h.o.2 with⟨hv,_⟩|⟨g',cap,cur,hv,_,hgg,_⟩
  ·cases hv
  ·cases hv;exact⟨cur,hgg⟩
 have hBg:B<=g:=(World.ownsRow.lt h.o g rfl).1;obtain⟨cur,hcur⟩:=hg;have kl:=Ao (i:=t*10+i) hcur (by decide) u;have el:(lo.set t x).length=lo.length:=by simp
 have ho:=(World.ownsRow.stored h.o (t*10+i) u).1;refine⟨⟨h.t.set hcur (by decide) u,?_,fun y hy=>(h.tn y hy).keeps kl,fun y hy=>?_,h.tc,fun y hy=>?_⟩,⟨cur,hcur⟩,hBg⟩
 ·unfold AV;rw[el];have e:=Cw (f:=Ab.cs) Ab.cs_len (l:=lo) (t:=t) (x:=x) (u:=u) ht hi hcs;unfold AF;rw[<-e];exact ho
 ·rcases Ea hy with rfl|hy
  ·exact hx.keeps kl
  ·exact(h.on y hy).keeps kl
 ·rcases Ea hy with rfl|hy
  ·exact hc
  ·exact h.oc y hy
end Go.Proofs.YtallmkehpfaaeaaGreatDoor
