import Derived.Shelf.Strings.OnBuilder
import Derived.Shelf.Strings.Builder1
import Derived.Shelf.Strings.BuilderF
import Derived.Shelf.Strconv.Itoa4
import Derived.Shelf.Strconv.Clone
import Derived.Shelf.LaysM
import Derived.Shelf.Lays
import Derived.Ground.NamesProg
import Derived.Lib.AppendIntMem
import Derived.Test.YteoihknaljgocaaGreatDoorZ23m
set_option maxRecDepth 100000
set_option maxHeartbeats 16000000
namespace Go.Proofs.YteoihknaljgocaaGreatDoor
open Go Go.RowKit Go.Deep Go.Maps Go.BigFrame Go.Shelf Go.Proofs.Tryz
variable {w:World}{B:Nat}{c:AH}
theorem OX(E:Nat->Addr)(w:World)(B P:Nat)(s:Al)(g ca q co:Nat)(lt:List Ae)(lo:List Ab)(t:Nat)(m:Value)(h:Ex w B P s g ca q co lt lo t m)(he:Kr w E)(h14:14<=B)(hB:B<=w.heap.size)(u:Nat)(hu:u<lo.length)(O:Ab)(hO:O=lo[u])(hd:∀x∈lo,x.data.size<=maxLen)(hk:s.kind=9)(hf:O.jA.n=8):
 Calls prog 135 #[.pointer P,.agg #[.pointer (some ⟨q,u*10,none⟩)]] w fun e w'=>∃v,e= .returned (.tuple #[.string ⟨#[]⟩,v])/\Below B w w'/\Told w' B E v 5/\Ex w' B P s g ca q co lt lo t m:=by
 obtain⟨CO,ql⟩:=h.st.jF hu hd;rw[<-hO]at CO;have n1:Nw (w.alloc (.cells #[.pointer (some ⟨q,u*10,none⟩)] 191)):=⟨⟩;have b0:Below w.heap.size w n1:=Bf w _;have c0:(n1:World).cell? ⟨w.heap.size,0,none⟩=some (.pointer (some ⟨q,u*10,none⟩)):=by go_simp
 obtain⟨⟨k0,k1,k2,k3,k4,k5,k6,k7,k8,k9⟩,k10,k11,k12,k13⟩:=(h.wk.below b0).jZ;have y6:(n1:World).cell? ⟨q,u*10+6,none⟩=some (.slice O.jA.a O.jA.n O.jA.k):=(CO.below ql b0).c6;have HA:=hid (h.below b0);have B0:=hid b0;have HE:=hid he;have HO:=hid hO;have ON:=hid (show O.new B w by rw[hO];exact h.st.on _ (List.getElem_mem hu));have OC:=hid (show O.jA.n<=O.jA.k/\O.jA.k<=maxLen by rw[hO];exact h.st.oc _ (List.getElem_mem hu));rw[hk]at k1;rw[hf]at y6;have e5:=(HE.out.below h14 (B0.out.mono hB) 12 (by omega) (by omega)).1;have sz:B<=(n1:World).heap.size:=Nat.le_trans hB B0.out.size;clear h he hO CO b0 hk hf;go_enter func135,ntmps135
 go_wp2_with fail
 refine(CN 5 259 (.pointer (some (E 12))) _).mono ?_;rintro e w9 ⟨rfl,rfl⟩;go_wp2;go_ret2;have b3:=Af B0.out (Bf _ (.cells #[.int .i64 5,.iface 259 (.pointer (some (E 12)))] 66));exact⟨_,rfl,b3.mono hB,Cl _ E sz 5 (by decide) 12 (by decide) (by decide) (by decide) (by first|rfl|simp),HA.out.below (Bf _ _)⟩
theorem Oz(E:Nat->Addr)(w:World)(B P:Nat)(s:Al)(g ca q co:Nat)(lt:List Ae)(lo:List Ab)(t:Nat)(m:Value)(h:Ex w B P s g ca q co lt lo t m)(he:Kr w E)(h14:14<=B)(hB:B<=w.heap.size)(u:Nat)(hu:u<lo.length)(O:Ab)(hO:O=lo[u])(hd:∀x∈lo,x.data.size<=maxLen)(hk:s.kind=10)(hf:O.jA.n=0):
 Calls prog 135 #[.pointer P,.agg #[.pointer (some ⟨q,u*10,none⟩)]] w fun e w'=>∃v,e= .returned (.tuple #[.string ⟨#[]⟩,v])/\Below B w w'/\Told w' B E v 6/\Ex w' B P s g ca q co lt lo t m:=by
 obtain⟨CO,ql⟩:=h.st.jF hu hd;rw[<-hO]at CO;have n1:Nw (w.alloc (.cells #[.pointer (some ⟨q,u*10,none⟩)] 191)):=⟨⟩;have b0:Below w.heap.size w n1:=Bf w _;have c0:(n1:World).cell? ⟨w.heap.size,0,none⟩=some (.pointer (some ⟨q,u*10,none⟩)):=by go_simp
 obtain⟨⟨k0,k1,k2,k3,k4,k5,k6,k7,k8,k9⟩,k10,k11,k12,k13⟩:=(h.wk.below b0).jZ;have y6:(n1:World).cell? ⟨q,u*10+6,none⟩=some (.slice O.jA.a O.jA.n O.jA.k):=(CO.below ql b0).c6;have HA:=hid (h.below b0);have B0:=hid b0;have HE:=hid he;have HO:=hid hO;have ON:=hid (show O.new B w by rw[hO];exact h.st.on _ (List.getElem_mem hu));have OC:=hid (show O.jA.n<=O.jA.k/\O.jA.k<=maxLen by rw[hO];exact h.st.oc _ (List.getElem_mem hu));rw[hk]at k1;rw[hf]at y6;have e5:=(HE.out.below h14 (B0.out.mono hB) 13 (by omega) (by omega)).1;have sz:B<=(n1:World).heap.size:=Nat.le_trans hB B0.out.size;clear h he hO CO b0 hk hf;go_enter func135,ntmps135
 go_wp2_with fail
 refine(CN 6 259 (.pointer (some (E 13))) _).mono ?_;rintro e w9 ⟨rfl,rfl⟩;go_wp2;go_ret2;have b3:=Af B0.out (Bf _ (.cells #[.int .i64 6,.iface 259 (.pointer (some (E 13)))] 66));exact⟨_,rfl,b3.mono hB,Cl _ E sz 6 (by decide) 13 (by decide) (by decide) (by decide) (by first|rfl|simp),HA.out.below (Bf _ _)⟩
theorem VD(h:c.new B w)(hk:c.n<=c.k/\c.k<=maxLen)(ht:c.tight):Fx w B (.slice c.a c.n c.k) c.n c.f:=by
 refine⟨by simp[I6],?_⟩;by_cases h0:0<c.n
 ·obtain⟨b,m,F,e,h1,⟨h2,rfl⟩,cur,hc,hs,hF⟩:=h.2 h0;obtain⟨b',off,e',hlt,hcc⟩:=h.1.2.1 h0;rw[e]at e';cases e';refine .inr ⟨b,c.k,cur,by rw[e],h1,hc,hk.1,hk.2,by rw[hs,Nat.mul_one],?_⟩;refine List.ext_getElem? (fun i=>?_);rw[Nat.mul_one];by_cases hi:i<c.n
  ·have hv:=hcc i hi;simp only[World.cell?,hc]at hv;rw[List.getElem?_take_of_lt hi];simp[I6,hi];simpa using hv
  ·rw[List.getElem?_eq_none (by simp;omega),List.getElem?_eq_none (by simp[I6];omega)]
 ·obtain⟨e1,e2⟩:=ht (by omega);have e3:c.n=0:=by omega
  exact .inl ⟨by rw[e1,e2,e3],e3⟩
theorem LF(h:c.new B w)(ht:c.tight):∀b,(Value.slice c.a c.n c.k).ownBlock=some b->b∈c.bs/\∃m F,w.rowIs b 9 m F:=fun b e=>by
 by_cases h0:0<c.n
 ·obtain⟨b',m,F,e',h1,_,hr⟩:=h.2 h0;rw[e']at e;simp only[Value.ownBlock,Option.some.injEq]at e;subst e;exact⟨by unfold AH.bs;rw[if_pos h0,e'];simp,m,F,hr⟩
 ·obtain⟨e1,e2⟩:=ht (by omega);rw[e1]at e;cases e
theorem Lj{ops:Array Oper}{o:Oper}{a:Act}{w:World}{K:Act->World->Prop}{Q:Exit->Act->World->Prop}{E:Prop}(hgd:o.guard=none)(s x:Operand)
 (ho:o.op= .call {callee:= .builtin .append,args:=#[s,x],argTypes:=#[42,42]})
 (B:Nat)(v:Value)(n:Nat)(f:Nat->ByteArray)(hs:a.eval s=v)(hown:Fx w B v n f)(ad:Option Addr)(c:Nat)(y:ByteArray)(hx:a.eval x= .slice ad 1 c)(hc:Bp w ad 1 [.string y])
 (hm:n<=1048576)(hB:B<=w.heap.size)(d:Option Nat)(hd:o.dst=d)
 (h:∀a' c' w',Fx w' B (.slice a' (n+1) c') (n+1) (Do n f y)->w.grownBy w' v.ownBlock->((Value.slice a' (n+1) c').ownBlock=v.ownBlock∨(Value.slice a' (n+1) c').ownBlock=some w.heap.size)->K (a.put d (.slice a' (n+1) c')) w'):
 if Region.wanted o (yielded ops a.tmps)=true then Oper.wp prog o a w K Q else E:=by
 have hw:Region.wanted o (yielded ops a.tmps)=true:=by simp[Region.wanted,hgd]
 rw[if_pos hw];refine Dw underlying42 Tryz.info9 rfl (by omega) w s x ho B v n (I6 n f) hs hown ad 1 c [.string y] hx rfl hc (fun u hu=>by simp at hu;subst hu;rfl) (by omega) (by omega) hB fun a' c' w' h2 h3 h4=>?_;rw[<-PG]at h2;rw[hd];exact h a' c' w' h2 h3 h4
theorem Qx(w:World)(B P:Nat)(s:Al)(g ca q co:Nat)(lt:List Ae)(lo:List Ab)(t:Nat)(m:Value)(h:Ex w B P s g ca q co lt lo t m)(hB:B<=w.heap.size)(u:Nat)(hu:u<lo.length)(O:Ab)(hO:O=lo[u])(hd:∀x∈lo,x.data.size<=maxLen)(hk:s.kind=9)(hf:O.jA.n≠8)(hl:O.jA.n<=1000)(ht:O.jA.tight)(hsd:s.data.size<=maxLen):
 Calls prog 135 #[.pointer P,.agg #[.pointer (some ⟨q,u*10,none⟩)]] w fun e w'=>∃(a:Option Addr) (cc:Nat),e= .returned (.tuple #[.string ⟨#[]⟩,.nilIface])/\Ex w' B P s g ca q co lt (lo.set u ⟨O.id,O.kind,O.up,O.b1,O.c1,O.data,⟨a,O.jA.n+1,cc,Do O.jA.n O.jA.f s.data⟩,O.own,O.b2,O.c2⟩) t m/\Below B w w':=by
 obtain⟨CO,ql⟩:=h.st.jF hu hd;rw[<-hO]at CO;have n1:Nw (w.alloc (.cells #[.pointer (some ⟨q,u*10,none⟩)] 191)):=⟨⟩;have b0:Below w.heap.size w n1:=Bf w _;have n5:Nv (.pointer (some ⟨q,u*10,none⟩)):=⟨⟩;have c0:(n1:World).cell? ⟨w.heap.size,0,none⟩=some (.pointer (some ⟨q,u*10,none⟩)):=by go_simp
 obtain⟨⟨k0,k1,k2,k3,k4,k5,k6,k7,k8,k9⟩,k10,k11,k12,k13⟩:=(h.wk.below b0).jZ;have y6:(n1:World).cell? ⟨q,u*10+6,none⟩=some (.slice O.jA.a O.jA.n O.jA.k):=(CO.below ql b0).c6;have HA:=hid (h.below b0);have B0:=hid b0;have HO:=hid hO;have ON:=hid (show O.new B w by rw[hO];exact h.st.on _ (List.getElem_mem hu));have OC:=hid (show O.jA.n<=O.jA.k/\O.jA.k<=maxLen by rw[hO];exact h.st.oc _ (List.getElem_mem hu));rw[hk]at k1;have f1:¬(O.jA.n:Int)=8:=by omega
 have f2:((O.jA.n:Int)==8)=false:=by simpa using f1
 have n2:No (.cells (Ie s g lt.length ca q lo.length co t m) 100):=⟨⟩;have Z1:Hid ((fun W=>Ag W P n2/\W.cell? ⟨w.heap.size,0,none⟩=some (.pointer (some ⟨q,u*10,none⟩))/\W.cell? ⟨q,u*10+6,none⟩=some (.slice O.jA.a O.jA.n O.jA.k)) (n1:World).drew):=hid ⟨HA.out.wk,c0,y6⟩;have n4:No (.cells #[.string s.data] 9):=⟨⟩;have BA:Below (n1:World).heap.size n1 ((n1:World).alloc n4).drew:=(Bf n1 _).drew;have ql1:q<(n1:World).heap.size:=Nat.lt_of_lt_of_le ql b0.size;have ZA:Hid ((fun W=>Ag W P n2/\W.cell? ⟨w.heap.size,0,none⟩=some (.pointer (some ⟨q,u*10,none⟩))/\W.cell? ⟨q,u*10+6,none⟩=some (.slice O.jA.a O.jA.n O.jA.k)) ((n1:World).alloc n4).drew):=hid ⟨HA.out.wk.below BA,(BA.cell (p:=⟨w.heap.size,0,none⟩) (by simp)).trans c0,(BA.cell (p:=⟨q,u*10+6,none⟩) ql1).trans y6⟩;have SA:=hid (HA.out.below BA);have BB:=hid (Af B0.out BA);have NA:=hid (ON.out.2.1.below BB.out);have LA:Hid (Bp ((n1:World).alloc n4).drew (some ⟨w.heap.size+1,0,none⟩) 1 [.string s.data]):=hid (by have h:=Jj n1 s.data;rw[show(n1:World).heap.size=w.heap.size+1 from by simp]at h;exact h);have HT:=hid ht;clear h hO CO b0 hk hf;go_enter func135,ntmps135
 go_upto_region 4 with fail
 refine Am 18 (fun W=>Ag W P n2/\W.cell? ⟨w.heap.size,0,none⟩=some (.pointer (some ⟨q,u*10,none⟩))/\W.cell? ⟨q,u*10+6,none⟩=some (.slice O.jA.a O.jA.n O.jA.k)) (by kernel_rfl) ?_;have n3:Nv (.pointer (w.heap.size)):=⟨⟩;refine tr 0 23 n3 Z1.out ?_;refine tr 1 24 n3 Z1.out ?_;refine tr 2 25 n5 Z1.out ?_ (hy:=fun W h=>by have y:=h.2.1;go_simp);refine tr 3 26 n3 Z1.out ?_;refine tr 4 27 n3 Z1.out ?_;refine tr 5 28 n5 Z1.out ?_ (hy:=fun W h=>by have y:=h.2.1;go_simp);refine tr 6 29 n5 Z1.out ?_;refine tr 7 30 (.pointer (some ⟨q,u*10+6,none⟩)) Z1.out ?_;refine tr 8 31 (.slice O.jA.a O.jA.n O.jA.k) Z1.out ?_ (hy:=fun W h=>by have y:=h.2.2;go_simp);have n6:Nv (.pointer P):=⟨⟩;refine tr 9 32 n6 Z1.out ?_;refine tr 10 33 n6 Z1.out ?_;refine tr 11 34 n6 Z1.out ?_;refine tr 12 35 (.pointer (some ⟨P,5,none⟩)) Z1.out ?_;refine tr 13 36 (.string s.data) Z1.out ?_ (hy:=fun W h=>by obtain⟨⟨k0,k1,k2,k3,k4,k5,k6,k7,k8,k9⟩,k10,k11,k12,k13⟩:=h.1.jZ;go_simp);refine Ac (i:=14) (by kernel_rfl) rfl ?_;intro K hK;go_simp;refine hK.out _ _ (fun _=>ZA.out) ?_;clear hK K;try simp only[ap,List.set]
 refine Ac (i:=15) (by kernel_rfl) rfl ?_;intro K hK;refine Lj (by rfl) _ _ (by rfl) B _ O.jA.n O.jA.f (by rfl) (VD NA.out OC.out HT.out) (some ⟨w.heap.size+1,0,none⟩) 1 s.data (by rfl) LA.out (by omega) (Nat.le_trans hB BB.out.size) (some 38) (by rfl) ?_;intro a3 c3 w3 o3 g3 e3;have NL:=Fx.newL o3 (by omega) (fun i hi=>by unfold Do;split;exact NA.out.1.2.2 i (by assumption);exact hsd);obtain⟨S4,⟨cur,hcu⟩,hBq,wk3,rw3⟩:=SA.out.itemRow hu HO.out (LF NA.out HT.out) g3 (d:=⟨a3,O.jA.n+1,c3,Do O.jA.n O.jA.f s.data⟩) NL.1 NL.2 (fun b hb=>by
  unfold AH.bs at hb;simp only[Nat.zero_lt_succ,if_true]at hb;rcases e3 with e|e
  ·refine .inl (LF NA.out HT.out b ?_).1;rw[<-e];cases a3 with
   |none=>cases hb
   |some p=>simp at hb;rw[hb];rfl
  ·refine .inr ?_;cases a3 with
   |none=>cases hb
   |some p=>simp at hb;subst hb;simp only[Value.ownBlock,Option.some.injEq]at e;rw[e];exact Nat.le_refl _)
 have n7:Nw ((w.alloc (.cells #[.pointer (some ⟨q,u*10,none⟩)] 191)).alloc n4):=⟨⟩;have gq:∀P',P'<(n7:World).drew.heap.size->P'≠P'∨((Value.slice O.jA.a O.jA.n O.jA.k).ownBlock≠some P')->w3.heap[P']? =(n7:World).drew.heap[P']?:=fun P' h1 h2=>g3.block P' h1 (fun e=>by rcases h2 with h2|h2;exact h2 rfl;exact h2 e.symm);have c6:w3.cell? ⟨q,u*10+6,none⟩=some (.slice O.jA.a O.jA.n O.jA.k):=(World.cell?_of_block (a:=⟨q,u*10+6,none⟩) (gq q (Nat.lt_of_lt_of_le ql1 BA.size) (.inr fun e=>(rw3 q e).2.1 rfl))).trans ZA.out.2.2;have hH:w.heap.size<B∨B<=w.heap.size:=by omega
 have cH:w3.cell? ⟨w.heap.size,0,none⟩=some (.pointer (some ⟨q,u*10,none⟩)):=(World.cell?_of_block (a:=⟨w.heap.size,0,none⟩) (gq w.heap.size (Nat.lt_of_lt_of_le (by simp) BA.size) (.inr fun e=>by
  have:=(ON.out.2.1.bs.2 _ (LF NA.out HT.out _ e).1).2;omega))).trans ZA.out.2.1
 have Z3:Hid ((fun W=>Ag W P n2/\W.cell? ⟨w.heap.size,0,none⟩=some (.pointer (some ⟨q,u*10,none⟩))/\W.cell? ⟨q,u*10+6,none⟩=some (.slice O.jA.a O.jA.n O.jA.k)) w3):=hid ⟨wk3,cH,c6⟩;have S4':=hid S4;have gf:=hcu.jC;have B3:Hid (Below B w w3):=hid ((BB.out.mono hB).trans (below_grown g3 (Nat.le_trans hB BB.out.size) (fun j e=>(rw3 j e).1)));have KK:=hK;refine KK.out _ _ (fun _=>Z3.out) ?_;clear hK KK K S4 NL o3 g3 e3 wk3 rw3 gq cH hH;simp only[ap,List.set];refine Ac (i:=16) (by kernel_rfl) rfl ?_;intro K hK;go_simp;refine hK.out _ _ (fun _=>Z3.out) ?_;clear hK K;try simp only[ap,List.set]
 refine Ac (i:=17) (by kernel_rfl) rfl ?_;intro K hK;go_simp;refine hK.out _ _ (fun _=>Z3.out) ?_;clear hK K;try simp only[ap,List.set]
 refine Ac (i:=18) (by kernel_rfl) rfl ?_;intro K hK;go_simp;refine hK.out _ _ (fun h=>absurd h (by decide)) ?_;clear hK K;try simp only[Act.put]
 refine Aj (by kernel_rfl) ?_ _;have B4:=hid (B3.out.setCell (p:=⟨q,u*10+6,none⟩) hBq (.slice a3 (O.jA.n+1) c3));go_wp2;go_ret2;exact⟨rfl,⟨a3,c3,S4'.out⟩,B4.out⟩
theorem Ex.takeF{wr:World}{P:Nat}{s:Al}{g ca q co:Nat}{lt:List Ae}{lo:List Ab}{t:Nat}{m:Value}(h:Ex wr B P s g ca q co lt lo t m){u b:Nat}(hu:u<lo.length){O:Ab}(hO:O=lo[u])(hn:O.jA.n≠0)(hb:O.jA.a=some ⟨b,0,none⟩){o kk:Nat}(hok:O.jA.n=1∨o=1):
 M6 (wr.setCell ⟨q,u*10+6,none⟩ (.slice (some ⟨b,o,none⟩) (O.jA.n-1) kk)) B P s g ca q co lt (lo.set u ⟨O.id,O.kind,O.up,O.b1,O.c1,O.data,⟨some ⟨b,o,none⟩,O.jA.n-1,kk,fun i=>O.jA.f (i+1)⟩,O.own,O.b2,O.c2⟩) t m/\B<=q/\∃cur,Ag wr q (.cells cur 44):=by
 have ho:=h.st.o;obtain⟨cur,hcur⟩:∃cur,Ag wr q (.cells cur 44):=by
  rcases ho.2 with⟨hv,_⟩|⟨g',cap,cur,hv,_,hgg,_⟩
  ·cases hv
  ·cases hv;exact⟨cur,hgg⟩
 have hBg:B<=q:=(World.ownsRow.lt ho q rfl).1;have el:(lo.set u (⟨O.id,O.kind,O.up,O.b1,O.c1,O.data,⟨some ⟨b,o,none⟩,O.jA.n-1,kk,fun i=>O.jA.f (i+1)⟩,O.own,O.b2,O.c2⟩:Ab)).length=lo.length:=by simp
 have n1:Nv (.slice (some ⟨b,o,none⟩) (O.jA.n-1) kk):=⟨⟩;have kl:=Au (i:=u*10+6) hcur (by decide) n1;have ho':=(World.ownsRow.stored ho (u*10+6) n1).1;have hx:=h.st.on _ (List.getElem_mem hu);rw[<-hO]at hx;obtain⟨b',m',F,e',hB',hm',hr⟩:=hx.2.1.2 (by omega);rw[hb]at e';cases e';obtain⟨b'',off,e'',hlt,hcc⟩:=hx.2.1.1.2.1 (by omega);rw[hb]at e'';cases e'';have tn:(⟨some ⟨b,o,none⟩,O.jA.n-1,kk,fun i=>O.jA.f (i+1)⟩:AH).jH B wr:=by
  refine⟨⟨by have:=hx.2.1.1.1;show O.jA.n-1<=maxLen;omega,fun h0=>⟨b,o,rfl,hlt,fun i hi=>?_⟩,fun i hi=>hx.2.1.1.2.2 (i+1) (by simp only at hi;omega)⟩,fun h0=>⟨b,o,m',F,rfl,hB',by simp only at h0 ⊢;omega,hr⟩⟩;have hi':i+1<O.jA.n:=by simp only at hi;omega
  have eo:o=1:=by omega
  subst eo;have:=hcc (i+1) hi';rw[show 1+i=0+(i+1) from by omega];exact this
 have bse:O.jA.bs=[b]:=by unfold AH.bs;rw[if_pos (by omega),hb]
 have tb:∀x∈(⟨some ⟨b,o,none⟩,O.jA.n-1,kk,fun i=>O.jA.f (i+1)⟩:AH).bs,x∈O.jA.bs:=fun x hx'=>by
  rw[bse];unfold AH.bs at hx';split at hx'
  ·exact hx'
  ·cases hx'
 have td:(⟨some ⟨b,o,none⟩,O.jA.n-1,kk,fun i=>O.jA.f (i+1)⟩:AH).bs.Nodup:=by
  unfold AH.bs;split
  ·simp
  ·simp
 have hn':O.cb.Nodup:=Dj (L:=lo.map Ab.cb) (S:=(lt.map Ae.cb).flatten) (t:=u) (by simp[hu,hO]) (List.perm_append_comm.nodup_iff.2 h.ap.c);have hi:O.own.bs.Nodup:=Dj (L:=lo.map fun x=>x.own.bs) (S:=(lt.map fun x=>x.own.bs).flatten) (t:=u) (by simp[hu,hO]) (List.perm_append_comm.nodup_iff.2 h.ap.i);have nq:∀x∈lo,∀b∈x.jA.bs,b≠q:=fun x hx2 b2 hb2 e=>by
  have hxx:=(h.st.on x hx2).2.1;unfold AH.bs at hb2;split at hb2
  ·rename_i h0;obtain⟨b3,m3,F3,e3,_,_,c3,hc3,_⟩:=hxx.2 h0;rw[e3]at hb2;have:=List.mem_singleton.1 hb2;simp only at this;subst this;have hq:=hcur;unfold Ag at hq;rw[<-e,hc3]at hq;simp at hq
  ·cases hb2
 have strF:∀{c:AH},c.jH B wr->(∀b∈c.bs,b≠q)->c.jH B (wr.setCell ⟨q,u*10+6,none⟩ (.slice (some ⟨b,o,none⟩) (O.jA.n-1) kk)):=fun{c} hc hne=>hc.of (by simp[World.setCell]) (fun b2 hb2=>Below.heap_setCell _ _ _ _ (fun(e:b2=q)=>hne b2 hb2 e));refine⟨⟨⟨h.st.t.set hcur (by decide) _,?_,fun y hy=>(h.st.tn y hy).keeps kl,fun y hy=>?_⟩,h.ap.setO h.st hu (x:=⟨O.id,O.kind,O.up,O.b1,O.c1,O.data,⟨some ⟨b,o,none⟩,O.jA.n-1,kk,fun i=>O.jA.f (i+1)⟩,O.own,O.b2,O.c2⟩) hn' (fun b hb=> .inl (by rw[<-hO];exact hb)) hi (fun b hb=> .inl (by rw[<-hO];exact hb)) td (fun b hb=> .inl (by rw[<-hO];exact tb b hb)),by rw[el];exact h.wk.other (Ne.symm h.setQ) _⟩,hBg,cur,hcur⟩
 ·unfold AO;have e:=Dd (f:=Ab.cs) Ab.jK (l:=lo) (t:=u) (x:=(⟨O.id,O.kind,O.up,O.b1,O.c1,O.data,⟨some ⟨b,o,none⟩,O.jA.n-1,kk,fun i=>O.jA.f (i+1)⟩,O.own,O.b2,O.c2⟩:Ab)) (u:= .slice (some ⟨b,o,none⟩) (O.jA.n-1) kk) (i:=6) hu (by omega) (by rw[<-hO];rfl);rw[el];unfold Ax;rw[<-e];exact ho'
 ·obtain⟨j,hj,rfl⟩:=List.getElem_of_mem hy;rw[List.getElem_set];split
  ·exact⟨hx.1.keeps kl,strF tn (fun b2 hb2=>nq O (by rw[hO];exact List.getElem_mem hu) b2 (tb b2 hb2)),hx.2.2.1.keeps kl,hx.2.2.2.keeps kl⟩
  ·have hj':j<lo.length:=(by simpa using hj);have hy':=h.st.on _ (List.getElem_mem hj');exact⟨hy'.1.keeps kl,strF hy'.2.1.f (nq _ (List.getElem_mem hj')),hy'.2.2.1.keeps kl,hy'.2.2.2.keeps kl⟩
theorem Ox(w:World)(B P:Nat)(s:Al)(g ca q co:Nat)(lt:List Ae)(lo:List Ab)(t:Nat)(m:Value)(h:Ex w B P s g ca q co lt lo t m)(hB:B<=w.heap.size)(u:Nat)(hu:u<lo.length)(O:Ab)(hO:O=lo[u])(hd:∀x∈lo,x.data.size<=maxLen)(hk:s.kind=10)(hf:O.jA.n≠0)(hl:O.jA.n<=1000):
 Calls prog 135 #[.pointer P,.agg #[.pointer (some ⟨q,u*10,none⟩)]] w fun e w'=>e= .returned (.tuple #[.string (O.jA.f 0),.nilIface])/\(∃(a:Option Addr) (kk:Nat),M6 w' B P s g ca q co lt (lo.set u ⟨O.id,O.kind,O.up,O.b1,O.c1,O.data,⟨a,O.jA.n-1,kk,fun i=>O.jA.f (i+1)⟩,O.own,O.b2,O.c2⟩) t m)/\Below B w w':=by
 obtain⟨CO,ql⟩:=h.st.jF hu hd;rw[<-hO]at CO;have n7:Nw (w.alloc (.cells #[.pointer (some ⟨q,u*10,none⟩)] 191)):=⟨⟩;have b0:Below w.heap.size w n7:=Bf w _;have c0:(n7:World).cell? ⟨w.heap.size,0,none⟩=some (.pointer (some ⟨q,u*10,none⟩)):=by go_simp
 obtain⟨⟨k0,k1,k2,k3,k4,k5,k6,k7,k8,k9⟩,k10,k11,k12,k13⟩:=(h.wk.below b0).jZ;have y6:(n7:World).cell? ⟨q,u*10+6,none⟩=some (.slice O.jA.a O.jA.n O.jA.k):=(CO.below ql b0).c6;have HA:=hid (h.below b0);have B0:=hid b0;have HO:=hid hO;have ON:=hid (show O.new B w by rw[hO];exact h.st.on _ (List.getElem_mem hu));have OC:=hid (show O.jA.n<=O.jA.k/\O.jA.k<=maxLen by rw[hO];exact h.st.oc _ (List.getElem_mem hu));rw[hk]at k1;have f1:¬(O.jA.n:Int)=0:=by omega
 have f2:((O.jA.n:Int)==0)=false:=by simpa using f1
 obtain⟨b,mm,F,ea,hb1,hb2,hr⟩:=ON.out.2.1.2 (by omega);obtain⟨b',off,ea',hlt,hcc⟩:=ON.out.2.1.1.2.1 (by omega);rw[ea]at ea';cases ea';have i0:(n7:World).cell? ⟨b,0,none⟩=some (.string (O.jA.f 0)):=(b0.cell (p:=⟨b,0,none⟩) hlt).trans (hcc 0 (by omega));rw[ea]at y6;have z0:(n7:World).drew.cell? ⟨w.heap.size,0,none⟩=some (.pointer (some ⟨q,u*10,none⟩)):=c0;have z6:(n7:World).drew.cell? ⟨q,u*10+6,none⟩=some (.slice b O.jA.n O.jA.k):=y6;have HD:=hid (HA.out.below (Below.refl _ _).drew);have n1:1<=O.jA.n:=by omega
 have n2:(1:Int)<=(O.jA.n:Int):=by omega
 have n3:1<=O.jA.k:=Nat.le_trans n1 OC.out.1;have n4:(0:Int)<(O.jA.n:Int):=by omega
 have n5:0<O.jA.n:=by omega
 have n6:O.jA.n<=O.jA.k:=OC.out.1;by_cases hk1:O.jA.k=1
 ·obtain⟨S1,hg,cur,hcu⟩:=HD.out.takeF hu HO.out hf ea (o:=0) (kk:=0) (.inl (by omega));have S1':=hid S1;have gf:=hcu.jC;have B1:=hid (((B0.out.drew).mono hB).setCell (p:=⟨q,u*10+6,none⟩) hg (.slice b (O.jA.n-1) 0));rw[hk1]at y6 z6;clear h hO CO b0 hk hf S1 hcc;go_enter func135,ntmps135
  go_upto_region 9 with fail
  generalize (n7:World)=V at *;go_region_law fail
  all_goals(
   go_wp2;go_ret2;exact⟨rfl,⟨_,_,S1'.out⟩,B1.out⟩)
 ·obtain⟨S1,hg,cur,hcu⟩:=HD.out.takeF hu HO.out hf ea (o:=1) (kk:=O.jA.k-1) (.inr rfl);have S1':=hid S1;have gf:=hcu.jC;have B1:=hid (((B0.out.drew).mono hB).setCell (p:=⟨q,u*10+6,none⟩) hg (.slice (some ⟨b,1,none⟩) (O.jA.n-1) (O.jA.k-1)));clear h hO CO b0 hk hf S1 hcc;go_enter func135,ntmps135
  go_upto_region 9 with fail
  generalize (n7:World)=V at *;go_region_law fail
  all_goals(
   go_wp2;go_ret2;exact⟨rfl,⟨_,_,S1'.out⟩,B1.out⟩)
def Tryz.joinA_ren:Go.Shelf.Ren:=⟨fun|156=>153|165=>167|166=>168|169=>169|240=>188|241=>189|276=>198|277=>199|n=>n,fun|31=>42|9=>9|3=>3|4=>4|0=>0|20=>20|72=>225|76=>227|70=>223|37=>22|75=>57|127=>245|164=>108|5=>5|80=>95|n=>n,fun|n=>n⟩
theorem Tryz.joinA:Go.Proofs.Lays.n156 prog Tryz.joinA_ren:={
 mixed:=by kernel_rfl
 f156:=func153.trans (congrArg some (by kernel_rfl))
 f165:=func167.trans (congrArg some (by kernel_rfl))
 f166:=func168.trans (congrArg some (by kernel_rfl))
 f169:=func169.trans (congrArg some (by kernel_rfl))
 f240:=func188.trans (congrArg some (by kernel_rfl))
 f241:=func189.trans (congrArg some (by kernel_rfl))
 f276:=func198.trans (congrArg some (by kernel_rfl))
 f277:=func199.trans (congrArg some (by kernel_rfl))
 t0:=underlying0
 a0:=isAgg0
 z0:=sizeOf0
 v0:=zeroValue0
 t3:=underlying3
 a3:=isAgg3
 z3:=sizeOf3
 v3:=zeroValue3
 t4:=underlying4
 a4:=isAgg4
 z4:=sizeOf4
 v4:=zeroValue4
 t9:=underlying9
 a9:=isAgg9
 z9:=sizeOf9
 v9:=zeroValue9
 t20:=underlying20
 a20:=isAgg20
 z20:=sizeOf20
 v20:=zeroValue20
 t31:=underlying42
 a31:=isAgg42
 z31:=sizeOf42
 v31:=zeroValue42
 t37:=underlying22
 a37:=isAgg22
 z37:=sizeOf22
 v37:=zeroValue22
 t70:=underlying223
 a70:=isAgg223
 z70:=sizeOf223
 v70:=zeroValue223
 t72:=underlying225
 a72:=isAgg225
 z72:=sizeOf225
 v72:=zeroValue225
 t75:=underlying57
 a75:=isAgg57
 z75:=sizeOf57
 v75:=zeroValue57
 t76:=underlying227
 a76:=isAgg227
 z76:=sizeOf227
 v76:=zeroValue227
 t127:=underlying245
 a127:=isAgg245
 z127:=sizeOf245
 v127:=zeroValue245
 t164:=underlying108
 a164:=isAgg108
 z164:=sizeOf108
 v164:=zeroValue108}
def Tryz.fmtA_ren:Go.Shelf.Ren:=⟨fun|173=>146|246=>156|283=>179|284=>180|285=>181|286=>182|129=>166|317=>193|318=>194|319=>195|320=>196|337=>201|338=>202|n=>n,fun|2=>2|3=>3|9=>9|4=>4|171=>236|0=>0|53=>172|37=>22|5=>5|173=>238|212=>249|51=>220|20=>20|213=>250|46=>174|232=>257|233=>258|n=>n,fun|17=>14|18=>16|19=>17|n=>n⟩
theorem Tryz.fmtA:Go.Proofs.LaysM.n173 prog Tryz.fmtA_ren:={
 mixed:=by kernel_rfl
 f129:=func166.trans (congrArg some (by kernel_rfl))
 f173:=func146.trans (congrArg some (by kernel_rfl))
 f246:=func156.trans (congrArg some (by kernel_rfl))
 f283:=func179.trans (congrArg some (by kernel_rfl))
 f284:=func180.trans (congrArg some (by kernel_rfl))
 f285:=func181.trans (congrArg some (by kernel_rfl))
 f286:=func182.trans (congrArg some (by kernel_rfl))
 f317:=func193.trans (congrArg some (by kernel_rfl))
 f318:=func194.trans (congrArg some (by kernel_rfl))
 f319:=func195.trans (congrArg some (by kernel_rfl))
 f320:=func196.trans (congrArg some (by kernel_rfl))
 f337:=func201.trans (congrArg some (by kernel_rfl))
 f338:=func202.trans (congrArg some (by kernel_rfl))
 t0:=underlying0
 a0:=isAgg0
 z0:=sizeOf0
 v0:=zeroValue0
 t2:=underlying2
 a2:=isAgg2
 z2:=sizeOf2
 v2:=zeroValue2
 t3:=underlying3
 a3:=isAgg3
 z3:=sizeOf3
 v3:=zeroValue3
 t4:=underlying4
 a4:=isAgg4
 z4:=sizeOf4
 v4:=zeroValue4
 t5:=underlying5
 a5:=isAgg5
 z5:=sizeOf5
 v5:=zeroValue5
 t9:=underlying9
 a9:=isAgg9
 z9:=sizeOf9
 v9:=zeroValue9
 t20:=underlying20
 a20:=isAgg20
 z20:=sizeOf20
 v20:=zeroValue20
 t37:=underlying22
 a37:=isAgg22
 z37:=sizeOf22
 v37:=zeroValue22
 t46:=underlying174
 a46:=isAgg174
 z46:=sizeOf174
 v46:=zeroValue174
 t51:=underlying220
 a51:=isAgg220
 z51:=sizeOf220
 v51:=zeroValue220
 t53:=underlying172
 a53:=isAgg172
 z53:=sizeOf172
 v53:=zeroValue172
 t171:=underlying236
 a171:=isAgg236
 z171:=sizeOf236
 v171:=zeroValue236
 t173:=underlying238
 a173:=isAgg238
 z173:=sizeOf238
 v173:=zeroValue238
 t212:=underlying249
 a212:=isAgg249
 z212:=sizeOf249
 v212:=zeroValue249
 t213:=underlying250
 a213:=isAgg250
 z213:=sizeOf250
 t232:=underlying257
 a232:=isAgg257
 z232:=sizeOf257
 v232:=zeroValue257
 t233:=underlying258
 a233:=isAgg258
 z233:=sizeOf258
 v233:=zeroValue258
 g17:=by kernel_rfl
 g18:=by kernel_rfl
 g19:=by kernel_rfl
 i0:=by kernel_rfl
 i2:=by kernel_rfl
 i3:=by kernel_rfl
 i4:=by kernel_rfl
 i5:=by kernel_rfl
 i9:=by kernel_rfl
 i20:=by kernel_rfl
 i37:=by kernel_rfl
 i46:=by kernel_rfl
 i51:=by kernel_rfl
 i53:=by kernel_rfl
 i171:=by kernel_rfl
 i173:=by kernel_rfl
 i212:=by kernel_rfl
 i232:=by kernel_rfl
 i233:=by kernel_rfl
 m17:=by kernel_rfl
 m18:=by kernel_rfl
 m19:=by kernel_rfl}
theorem Tryz.Builder_Extra_156:Builder.Extra prog Tryz.joinA_ren:={
 sizeBuilder:=by kernel_rfl
 liesBuilder:=by kernel_rfl
 t5:=underlying5
 a5:=isAgg5
 z5:=sizeOf5
 v5:=zeroValue5
 infoByte:=by kernel_rfl
 cellsByte:=by kernel_rfl
 sizeByte:=by kernel_rfl
 neB5:=by decide}
open Go.RowKit Go.Sort Go.Lib in
theorem Tryz.strconv_FormatInt_10(n:Int)(h0: -9223372036854775808<=n)(h1:n<=9223372036854775807)(w:World)(htab:Lib.TabIs prog w "internal/strconv.uint64pow10" .u64 Lib.pow10Tab):
 Calls prog 146 #[.int .i64 n,.int .i64 10] w fun e w'=>e= .returned (.string ⟨(Lib.itoa n).toArray⟩)/\∃k os,w'=grow (w.drewN k) os:=Any.strconv_FormatInt_10 Tryz.fmtA n h0 h1 w htab
open Go.RowKit in
theorem Tryz.strings_Join(bk o c:Nat)(xs:List ByteArray)(sep:ByteArray)(w:World)
 (hcells:∀(j:Nat) x,xs[j]? =some x->w.cell? ⟨bk,o+j,none⟩=some (.string x))
 (hbk:bk<w.heap.size)(hN:xs.length<=140737488355328)(hcap:xs.length<=c)
 (hlen:(Lib.join (xs.map (·.data.toList)) sep.data.toList).length<=140737488355328):
 Calls prog 153 #[.slice (some ⟨bk,o,none⟩) xs.length c,.string sep] w fun e w'=>e= .returned (.string ⟨(Lib.join (xs.map (·.data.toList)) sep.data.toList).toArray⟩)/\Below w.heap.size w w':=Any.strings_Join Tryz.joinA Tryz.Builder_Extra_156 bk o c xs sep w hcells hbk hN hcap hlen
theorem X2(n:Nat):Lib.decDigits n=Db n:=by
 induction n using Nat.strongRecOn with
 |_ n ih=>
  by_cases h:n<10
  ·rw[Iy h,Lib.decDigits,dif_pos h]
  ·rw[Kp h,Lib.decDigits,dif_neg h,ih (n/10) (by omega)]
def Q6(w:World):Prop:=Lib.TabIs prog w "internal/strconv.uint64pow10" .u64 Lib.pow10Tab
theorem Tryz.tabSome:(prog.globalNamed "internal/strconv.uint64pow10").isSome=true:=by kernel_rfl
theorem Tryz.tabNamed:∃g,prog.globalNamed "internal/strconv.uint64pow10" =some g:=Option.isSome_iff_exists.1 Tryz.tabSome
theorem Q6.below{w w':World}(h:Q6 w)(hb:Below w w w'):Q6 w':=by
 obtain⟨g,hg⟩:=Tryz.tabNamed;unfold Q6 Lib.TabIs at *;refine var?_below hb hg ?_ h;rcases Nat.lt_or_ge g w with h'|h'
 ·exact h'
 ·exfalso;simp[World.var?,hg,Array.getElem?_eq_none h']at h
theorem Jo(x:Int)(w:World)(h0:0<=x)(h1:x<=10000000000)(ht:Q6 w):
 Calls prog 122 #[.int .i64 x] w fun e w'=>e= .returned (.string ⟨(Db x.toNat).toArray⟩)/\Below w w w':=by
 go_enter func122,ntmps122
 go_wp2_with fail
 refine(Tryz.strconv_FormatInt_10 x (by omega) (by omega) w ht).mono ?_;rintro e w' ⟨rfl,k,os,rfl⟩;have e1:Lib.itoa x=Db x.toNat:=by
  unfold Lib.itoa;rw[if_neg (by omega),X2]
 have hb:Below w w (Sort.grow (w.drewN k) os):=Lib.below_grow _ w nr k os;rw[e1];generalize Sort.grow (w.drewN k) os=W at *;go_wp2;go_ret;exact⟨rfl,hb⟩
def Js(l:List Int)(i:Nat):ByteArray:=⟨(Db (AV l i).toNat).toArray⟩
theorem Vl(sep:List UInt8)(r:List (List UInt8))(x:List UInt8):Lib.joinTail sep (r++[x])=Lib.joinTail sep r++(sep++x):=by simp[Lib.joinTail]
theorem Wm{r:List (List UInt8)}(h:r≠[])(x sep:List UInt8):Lib.join (r++[x]) sep=Lib.join r sep++sep++x:=by
 cases r with
 |nil=>exact absurd rfl h
 |cons y r=>rw[List.cons_append,Lib.join_cons,Lib.join_cons,Vl];simp
theorem SV(l:List Int):∀n,(Px (AV l) n).data.toList=Lib.join (((List.range n).map (Js l)).map (·.data.toList)) [32]
 |0=>rfl
 |n+1=>by
  have ih:=SV l n;rw[List.range_succ,List.map_append,List.map_append];by_cases h:0<n
  ·rw[show([n].map (Js l)).map (·.data.toList)=[Db (AV l n).toNat] from by simp[Js]];rw[Wm (by simp;omega),<-ih];simp[Px,h]
  ·have e:n=0:=(by omega);subst e;simp[Px,Js,Lib.join,List.intercalate]
theorem own_below{w w':World}{B e size n:Nat}{v:Value}{xs:List Value}(h:w.ownsRow B e size v n xs)(hb:Below w w w'):w'.ownsRow B e size v n xs:=by
 refine⟨h.1,?_⟩;rcases h.2 with h2|⟨g,cap,cur,hv,h1,h2,h3,h4,h5,h6⟩
 ·exact .inl h2
 ·refine .inr ⟨g,cap,cur,hv,h1,?_,h3,h4,h5,h6⟩;rw[hb.block g (by rcases Nat.lt_or_ge g w with h|h;exact h;simp[Array.getElem?_eq_none h]at h2)];exact h2
theorem Xu{x:Int}(h:x.toNat<=1000000):(⟨(Db x.toNat).toArray⟩:ByteArray).size<=1000001:=by
 have h1:=IX x.toNat;show(Db x.toNat).toArray.size<=_;simp;omega
theorem Wr(a:Option Addr)(k:Nat)(x:Value)(w:World):Calls prog 153 #[.slice a 0 k,x] w fun e w'=>e= .returned (.string ⟨#[]⟩)/\Below w w w':=by
 go_enter func153,ntmps153
 go_wp2;go_ret;exact⟨rfl,Below.refl _ _⟩
theorem XZ(w:World)(B P:Nat)(s:Al)(g ca q co:Nat)(lt:List Ae)(lo:List Ab)(t c C:Nat)(nb:Nat->Nat)(kv:Nat->Value)(K:Nat->List Int)(h:Ex w B P s g ca q co lt lo t (.map (some c)))(hN:Eb w C c lo.length (fun i=>(Aa lo i).id) q 0 nb kv K)(hB:B<=w.heap.size)(u:Nat)(hu:u<lo.length)(O:Ab)(hO:O=lo[u])(hd:∀x∈lo,x.data.size<=maxLen)(hf:Gl lo O.id=some u)(hi:(Lit.int .i64 O.id).wf=true)(KL:List Int)(hK:K u=KL)(hn:KL.length<=1000)(hx:∀x∈KL,0<=x/\x<=1000000)(tab:Q6 w):
 Calls prog 136 #[.pointer P,.agg #[.pointer (some ⟨q,u*10,none⟩)]] w fun e w'=>e= .returned (.string (Px (AV KL) KL.length))/\Ex w' B P s g ca q co lt lo t (.map (some c))/\Below B w w':=by
 obtain⟨CO,ql⟩:=h.st.jF hu hd;rw[<-hO]at CO;have n2:Nw (w.alloc (.cells #[.pointer (some ⟨q,u*10,none⟩)] 193)):=⟨⟩;have b0:Below w w n2:=Bf w _;have c0:(n2:World).cell? ⟨w,0,none⟩=some (.pointer (some ⟨q,u*10,none⟩)):=by go_simp
 have ow:=hN.own u hu;rw[hK]at ow;obtain⟨ka,kc,ekv⟩:=Ay.form ow;have ND:=hN.below b0.drew;have bk:=ND.blk u hu;rw[Nat.zero_add,ekv]at bk;have LK:=ND.map.look hi;rw[show Bg (fun i=>(Aa lo i).id) lo.length O.id=some u from hf]at LK;simp only[Option.map_some]at LK;obtain⟨n0,n1⟩:=bk.two;obtain⟨_,_,_,_,c13⟩:=(h.wk.below b0.drew).jZ;have z0:(n2:World).drew.cell? ⟨w,0,none⟩=some (.pointer (some ⟨q,u*10,none⟩)):=c0;have z1:(n2:World).drew.cell? ⟨q,u*10,none⟩=some (.int .i64 O.id):=(CO.below ql b0.drew).c0;have HW:=hid h;have OW:Hid (Ay w C (.slice ka KL.length kc) KL):=hid (by rw[<-ekv];exact ow);have HX:=hid hx;have TB:=hid tab;have B0:=hid b0.drew;clear h hN hO CO ow ekv ND hK hx tab hf c0 b0 bk hd;go_enter func136,ntmps136
 go_upto_region 2 with fail
 go_cut[21,22,23] from 8 (fun x y z wc=>x= .slice ka KL.length kc/\y= .int .i64 KL.length/\z= .int .i64 0/\wc=(n2:World).drew)
 case first=>
  go_region_law fail
  all_goals(
   go_wp2_with fail
   go_meet;case rel=>exact⟨rfl,rfl,rfl,rfl⟩)
 case rest=>
  obtain⟨rfl,rfl,rfl,rfl⟩:=hcut;clear n0 n1 LK c13 z0 z1;go_wp2;go_loopw [5,23] (fun v i wr=>∃(j:Nat) (a:Option Addr) (cc:Nat),j<=KL.length/\i= .int .i64 j/\v= .slice a j cc/\Hid (Fx wr w (.slice a j cc) j (Js KL))/\Hid (Below w w wr)) (fun _ i _=>KL.length-(intOf i).toNat)
  case atStart=>exact⟨0,none,0,Nat.zero_le _,rfl,rfl,hid (World.ownsRow_nil _ _ _ _),B0⟩
  case round=>
   obtain⟨j,a,cc,hj,rfl,rfl,OS,BW⟩:=hrel;by_cases hlt:j<KL.length
   ·have i1:(j:Int)<(KL.length:Int):=(by omega);have i0:(0:Int)<=(j:Int):=(by omega);obtain⟨kb,ko,ea,kl,kcc⟩:=(Ay.lies OW).ints (by omega);have kcell:=(BW.out.cell (p:=⟨kb,ko+j,none⟩) kl).trans (kcc j hlt);rw[ea];have xm:AV KL j∈KL:=(by unfold AV;rw[List.getD_eq_getElem?_getD,List.getElem?_eq_getElem hlt];exact List.getElem_mem hlt);have xb:=HX.out _ xm;have DC:=hid (Jo (AV KL j) wr xb.1 (by omega) (TB.out.below BW));have SZ:Hid ((Js KL j).size<=maxLen):=hid (by have:=Xu (x:=AV KL j) (by omega);show(⟨(Db (AV KL j).toNat).toArray⟩:ByteArray).size<=maxLen;unfold maxLen;omega);clear kcc xm;go_wp2_with fail
    refine DC.out.mono ?_;rintro e w1 ⟨rfl,b1⟩;have O1:=hid (own_below OS b1);have B1:=hid (Af BW b1);have BA:=Bf w1 (.cells #[.string ⟨(Db (AV KL j).toNat).toArray⟩] 9);have O2:=hid (own_below O1 BA);have B2:=hid (Af B1 BA);have L2:=hid (Jj w1 ⟨(Db (AV KL j).toNat).toArray⟩);have s2:=B2.out.size;clear b1 BA DC kcell;go_wp2_with(refine Bs underlying42 Tryz.info9 rfl (by omega) _ rfl _ _ rfl w (.slice a j cc) j (I6 j (Js KL)) rfl O2 (some ⟨w1,0,none⟩) 1 1 [.string ⟨(Db (AV KL j).toNat).toArray⟩] rfl rfl L2 (fun u hu=>by simp at hu;subst hu;rfl) (by omega) (by omega) s2 ?_;intro a3 c3 w3 o3 g3)
    have O3:Hid (Fx w3 w (.slice a3 (j+1) c3) (j+1) (Js KL)):=hid (by
     have e:I6 (j+1) (Js KL)=I6 j (Js KL)++[.string ⟨(Db (AV KL j).toNat).toArray⟩]:=(by unfold I6;rw[List.range_succ];simp[Js]);rw[<-e]at o3;exact o3)
    have B3:Hid (Below w w w3):=hid (B2.out.trans (below_grown g3 B2.out.size (fun j e=>(World.ownsRow.lt O2 j e).1)));clear o3 g3;go_roundw;case rel=>exact⟨j+1,a3,c3,by omega,by go_num,rfl,O3,B3⟩
    case measure=>simp[intOf];omega
   ·have ej:j=KL.length:=(by omega);have i1:¬(j:Int)<(KL.length:Int):=(by omega);subst ej;by_cases h0:0<KL.length
    ·obtain⟨gb,mm,F,ea,hb1,hb2,hr⟩:=Dl OS h0;subst ea;obtain⟨b',off,e',hlt',hcc⟩:=Bp.own OS h0;cases e';have lw:=hr.lt;have JS:((Px (AV KL) KL.length).size)<=KL.length*1000002:=QA (fun i hi=>by
      have hi':=HX.out (AV KL i) (by unfold AV;rw[List.getD_eq_getElem?_getD,List.getElem?_eq_getElem hi];exact List.getElem_mem hi);omega)
     have JJ:=hid (SV KL KL.length);have JN:Hid (Calls prog 153 #[.slice gb KL.length cc,.string ⟨#[32]⟩] wr fun e w'=>e= .returned (.string (Px (AV KL) KL.length))/\Below wr wr w'):=hid (by
      have el:((List.range KL.length).map (Js KL)).length=KL.length:=(by simp);have jl:(Lib.join (((List.range KL.length).map (Js KL)).map (·.data.toList)) [32]).length=(Px (AV KL) KL.length).size:=by
       rw[<-JJ.out];exact Array.length_toList
      have:=Tryz.strings_Join gb 0 cc ((List.range KL.length).map (Js KL)) ⟨#[32]⟩ wr (fun i x hx'=>hcc i (.string x) (by
       have hil:i<KL.length:=by
        have:=(List.getElem?_eq_some_iff.1 hx').1;simpa using this
       simp[hil]at hx';subst hx';simp[I6,hil])) lw (by rw[el];omega) (by rw[el];exact(CZ OS).1) (by
        show(Lib.join (((List.range KL.length).map (Js KL)).map (·.data.toList)) [32]).length<=_;rw[jl];omega)
      rw[el]at this;refine this.mono ?_;rintro e w' ⟨rfl,hb⟩;refine⟨?_,hb⟩;have e2:(⟨(Lib.join (((List.range KL.length).map (Js KL)).map (·.data.toList)) (⟨#[32]⟩:ByteArray).data.toList).toArray⟩:ByteArray)=Px (AV KL) KL.length:=by
       have:(Lib.join (((List.range KL.length).map (Js KL)).map (·.data.toList)) (⟨#[32]⟩:ByteArray).data.toList)=(Px (AV KL) KL.length).data.toList:=JJ.out.symm;rw[this]
      rw[e2])
     clear hcc hr lw JS;go_wp2_with fail
     refine JN.out.mono ?_;rintro e w1 ⟨rfl,b1⟩;have B1:=hid (Af BW b1);clear b1;go_wp2;go_ret;exact⟨rfl,HW.out.below B1,B1.out.mono hB⟩
    ·have e0:KL=[]:=List.eq_nil_of_length_eq_zero (by omega);subst e0;have SH:=OS.out.2;have en:a=none∨∃gb,a=some ⟨gb,0,none⟩:=by
      rcases SH with⟨hv,_⟩|⟨gb,cap,cur,hv,_⟩
      ·left;cases hv;rfl
      ·right;cases hv;exact⟨gb,rfl⟩
     clear SH;have JN:=hid (Wr a cc (.string ⟨#[32]⟩) wr);go_wp2_with fail
     refine JN.out.mono ?_;rintro e w1 ⟨rfl,b1⟩;have B1:=hid (Af BW b1);clear b1;go_wp2;go_ret;exact⟨rfl,HW.out.below B1,B1.out.mono hB⟩
theorem Tr(k:Int)(w:World):Calls prog 133 #[.int .i64 k] w fun e w'=>e= .returned (.bool (k==6||k==9||k==10))/\Below w w w':=by
 by_cases h0:k=6
 ·subst h0;go_enter func133,ntmps133
  go_wp2;go_ret;exact⟨by simp,Below.refl _ _⟩
 ·have b0:(k==6)=false:=by simpa using h0
  by_cases h1:k=9
  ·subst h1;go_enter func133,ntmps133
   go_wp2;go_ret;exact⟨by simp,Below.refl _ _⟩
  ·have b1:(k==9)=false:=(by simpa using h1);by_cases h2:k=10
   ·subst h2;go_enter func133,ntmps133
    go_wp2;go_ret;exact⟨by simp,Below.refl _ _⟩
   ·have b2:(k==10)=false:=(by simpa using h2);go_enter func133,ntmps133
    go_wp2;go_ret;exact⟨by simp[h0,h1,h2],Below.refl _ _⟩
theorem Kz(v:Value)(k:Int)(w:World):Calls prog 238 #[.agg #[v],.int .i64 k] w fun e w'=>e= .returned (.bool (k==6||k==7||k==8))/\Below w w w':=by
 by_cases h0:k=6
 ·subst h0;go_enter func238,ntmps238
  go_wp2;go_ret;exact⟨by simp,Bf w _⟩
 ·have b0:(k==6)=false:=by simpa using h0
  by_cases h1:k=7
  ·subst h1;go_enter func238,ntmps238
   go_wp2;go_ret;exact⟨by simp,Bf w _⟩
  ·have b1:(k==7)=false:=(by simpa using h1);by_cases h2:k=8
   ·subst h2;go_enter func238,ntmps238
    go_wp2;go_ret;exact⟨by simp,Bf w _⟩
   ·have b2:(k==8)=false:=(by simpa using h2);go_enter func238,ntmps238
    go_wp2;go_ret;exact⟨by simp[h0,h1,h2],Bf w _⟩
theorem Mx(v:Value)(k:Int)(w:World):Calls prog 239 #[.agg #[v],.int .i64 k] w fun e w'=>e= .returned (.bool (k==9||k==10))/\Below w w w':=by
 by_cases h0:k=9
 ·subst h0;go_enter func239,ntmps239
  go_wp2;go_ret;exact⟨by simp,Bf w _⟩
 ·have b0:(k==9)=false:=by simpa using h0
  by_cases h1:k=10
  ·subst h1;go_enter func239,ntmps239
   go_wp2;go_ret;exact⟨by simp,Bf w _⟩
  ·have b1:(k==10)=false:=(by simpa using h1);go_enter func239,ntmps239
   go_wp2;go_ret;exact⟨by simp[h0,h1],Bf w _⟩
theorem Pm(v:Value)(k:Int)(w:World):Calls prog 240 #[.agg #[v],.int .i64 k] w fun e w'=>e= .returned (.bool (k==15))/\Below w w w':=by
 by_cases h0:k=15
 ·subst h0;go_enter func240,ntmps240
  go_wp2;go_ret;exact⟨by simp,Bf w _⟩
 ·have b0:(k==15)=false:=by simpa using h0
  go_enter func240,ntmps240
  go_wp2;go_ret;exact⟨by simp[h0],Bf w _⟩
theorem Nb(v:Value)(k:Int)(w:World):Calls prog 241 #[.agg #[v],.int .i64 k] w fun e w'=>e= .returned (.bool (k==13))/\Below w w w':=by
 by_cases h0:k=13
 ·subst h0;go_enter func241,ntmps241
  go_wp2;go_ret;exact⟨by simp,Bf w _⟩
 ·have b0:(k==13)=false:=by simpa using h0
  go_enter func241,ntmps241
  go_wp2;go_ret;exact⟨by simp[h0],Bf w _⟩
def Bh(k:Int):Int:=if k=2 then 1 else if k=3 then 2 else if k=4 then 3 else 4
theorem GX(k:Int)(w:World):Calls prog 124 #[.int .i64 k] w fun e w'=>e= .returned (.int .i64 (Bh k))/\w'=w:=by
 by_cases h0:k=2
 ·subst h0;go_enter func124,ntmps124
  go_wp2;go_ret;exact⟨by simp[Bh],rfl⟩
 ·have b0:(k==2)=false:=by simpa using h0
  by_cases h1:k=3
  ·subst h1;go_enter func124,ntmps124
   go_wp2;go_ret;exact⟨by simp[Bh],rfl⟩
  ·have b1:(k==3)=false:=(by simpa using h1);by_cases h2:k=4
   ·subst h2;go_enter func124,ntmps124
    go_wp2;go_ret;exact⟨by simp[Bh],rfl⟩
   ·have b2:(k==4)=false:=(by simpa using h2);go_enter func124,ntmps124
    go_wp2;go_ret;exact⟨by simp[Bh,h0,h1,h2],rfl⟩
variable {L:List Int}{h:Nat->Int}
theorem Ma(d:Array Int)(hs:∀i j,i<=j->j<d.size->d[i]!<=d[j]!):∀m,m<=d.size->(Lib.compactUpTo d m).Pairwise (· <·)/\∀x,x∈Lib.compactUpTo d m↔∃i,i<m/\x=d[i]!
 |0,_=>⟨by simp[Lib.compactUpTo],by simp[Lib.compactUpTo]⟩
 |m+1,hm=>by
  obtain⟨h1,h2⟩:=Ma d hs m (by omega);rw[Lib.compactUpTo_succ];by_cases h0:m=0
  ·subst h0;simp[Lib.compactUpTo,Lib.keeps]
  ·by_cases he:d[m]! =d[m-1]!
   ·rw[Lib.keeps_neg (by omega) he];simp only[Bool.false_eq_true,if_false,List.append_nil];refine⟨h1,fun x=>?_⟩;rw[h2];constructor
    ·rintro⟨i,hi,e⟩;exact⟨i,by omega,e⟩
    ·rintro⟨i,hi,e⟩;by_cases e1:i=m
     ·subst e1;exact⟨i-1,by omega,by rw[e,he]⟩
     ·exact⟨i,by omega,e⟩
   ·rw[Lib.keeps_pos he];simp only[if_true];refine⟨?_,fun x=>?_⟩
    ·rw[List.pairwise_append];refine⟨h1,by simp,fun a ha b hb=>?_⟩;obtain⟨i,hi,rfl⟩:=(h2 a).1 ha;simp at hb;subst hb;have a1:=hs i (m-1) (by omega) (by omega);have a2:=hs (m-1) m (by omega) (by omega);omega
    ·rw[List.mem_append,h2];simp only[List.mem_singleton];constructor
     ·rintro(⟨i,hi,e⟩|e)
      ·exact⟨i,by omega,e⟩
      ·exact⟨m,by omega,e⟩
     ·rintro⟨i,hi,e⟩;by_cases e1:i=m
      ·subst e1;exact .inr e
      ·exact .inl ⟨i,by omega,e⟩
theorem Xo(l:List Int):(Ct l).Pairwise (· <=·):=by
 have:=List.pairwise_mergeSort (le:=fun(x y:Int)=>decide (x<=y)) (fun a b c h1 h2=>by simp at *;omega) (fun a b=>by simp;omega) l;exact this.imp (fun h=>by simpa using h)
theorem Qv(l:List Int):(Lib.compact (Ct l)).Pairwise (· <·)/\∀x,x∈Lib.compact (Ct l)↔x∈l:=by
 have h:=Ma (Ct l).toArray (fun i j hij hj=>by
  simp only[List.size_toArray]at hj;by_cases e:i=j
  ·subst e;exact Int.le_refl _
  ·have:=List.pairwise_iff_getElem.1 (Xo l) i j (by omega) hj (by omega);simpa[getElem!_pos,hj,show i<(Ct l).length by omega]using this) (Ct l).length (by simp)
 refine⟨h.1,fun x=>?_⟩;unfold Lib.compact;rw[h.2,<-LG (l:=l)];constructor
 ·rintro⟨i,hi,rfl⟩;have:(Ct l).toArray[i]! =(Ct l)[i]:=by simp[getElem!_pos,hi]
  rw[this];exact List.getElem_mem hi
 ·intro hx;obtain⟨i,hi,rfl⟩:=List.getElem_of_mem hx;exact⟨i,hi,by simp[getElem!_pos,hi]⟩
theorem Mi(hL:L.Pairwise (· <·)):∀q,(DY L h q).Pairwise (· <·)
 |0=>hL
 |q+1=>JI (Mi hL q)
theorem Lz(x:Int):∀q,x∈DY L h q↔x∈L∨∃i,i<q/\x=h i
 |0=>by simp[DY]
 |q+1=>by
  simp only[DY];rw[UZ,Lz x q];constructor
  ·rintro((a|⟨i,hi,e⟩)|e)
   ·exact .inl a
   ·exact .inr ⟨i,by omega,e⟩
   ·exact .inr ⟨q,by omega,e⟩
  ·rintro(a|⟨i,hi,e⟩)
   ·exact .inl (.inl a)
   ·by_cases e1:i=q
    ·subst e1;exact .inr e
    ·exact .inl (.inr ⟨i,by omega,e⟩)
theorem Ms(hL:L.Pairwise (· <·))(h:Nat->Int)(n:Nat):Lib.compact (Ct (L++(List.range n).map h))=DY L h n:=by
 obtain⟨a,b⟩:=Qv (L++(List.range n).map h);refine Om a (Mi hL n) (fun x=>?_);rw[b,Lz,List.mem_append,List.mem_map];simp only[List.mem_range];constructor
 ·rintro(c|⟨i,hi,e⟩)
  ·exact .inl c
  ·exact .inr ⟨i,hi,e.symm⟩
 ·rintro(c|⟨i,hi,e⟩)
  ·exact .inl c
  ·exact .inr ⟨i,hi,e.symm⟩
theorem QJ(hL:L.Pairwise (· <·))(x:Int):Lib.compact (Ct (L++[x]))=DT L x:=by
 have:=Ms hL (fun _=>x) 1;simpa[DY]using this
variable {b:Int}{c:Ar}{W:World}{X:Ae}{n:Nat}{h:Nat->Int}
theorem IB{o:AJ}{b':Int}{c':Ar}(hc:c.at W)(ho:o.at W)(hc':c'.at W)(l1:Bb b c.n c.f c.g=true)(l2:Ci o.n o.h=true)(l3:Bb b' c'.n c'.f c'.g=true):
 Calls prog 14 #[.agg #[.int .i64 b,c],o,.agg #[.int .i64 b',c']] W fun e w'=>e= .returned (.bool (CY b c o b' c'))/\Below W W w':=by
 have h:=HI b c.a c.n c.k c.f c.g o.a o.n o.k o.h b' c'.a c'.n c'.k c'.f c'.g W hc.1 hc'.1 ho.1 hc.2 hc'.2 ho.2;refine h.mono ?_;rintro e w' ⟨rfl,hb⟩;refine⟨?_,hb⟩;unfold CY De;simp[l1,l2,l3]
theorem Tc(h:JO X):DO X.id X.made X.b1 X.c1.n X.c1.f X.c1.g X.b2 X.c2.n X.c2.f X.c2.g X.own.n X.own.h=true:=Gw.2 h
theorem aw(hX:X.at W)(hc:c.at W)(hF:JO X)(l:Bb b c.n c.f c.g=true):
 Calls prog 29 #[.agg X,.agg #[.int .i64 b,c]] W fun e w'=>e= .returned (.bool (Gz X b c))/\Below W W w':=by
 refine(KH X.id X.made X.b1 X.c1.a X.c1.n X.c1.k X.c1.f X.c1.g X.b2 X.c2.a X.c2.n X.c2.k X.c2.f X.c2.g X.own.a X.own.n X.own.k X.own.h b c.a c.n c.k c.f c.g W hX.1.1 hX.2.1.1 hX.2.2.1 hX.1.2 hX.2.1.2 hX.2.2.2 hc.1 hc.2).mono ?_;rintro e w' ⟨rfl,hb⟩;refine⟨?_,hb⟩;unfold Mh Gz;rw[Tc hF,l];simp
theorem Qa(hX:X.at W)(hc:c.at W)(hF:JO X)(l:Bb b c.n c.f c.g=true):
 Calls prog 13 #[.agg X,.agg #[.int .i64 b,c]] W fun e w'=>e= .returned (.bool (Ap X b c))/\Below W W w':=by
 refine(MF X.id X.made X.b1 X.c1.a X.c1.n X.c1.k X.c1.f X.c1.g X.b2 X.c2.a X.c2.n X.c2.k X.c2.f X.c2.g X.own.a X.own.n X.own.k X.own.h b c.a c.n c.k c.f c.g W hX.1.1 hX.2.1.1 hX.2.2.1 hX.1.2 hX.2.1.2 hX.2.2.2 hc.1 hc.2).mono ?_;rintro e w' ⟨rfl,hb⟩;refine⟨?_,hb⟩;unfold KG Mh Nh Ap Gz;rw[Tc hF,l];simp
theorem WM(e:Ci n h=true):∀i j,i<j->j<n->h i<h j:=by
 obtain⟨_,ha⟩:=VA e;have one:∀j,0<j->j<n->h (j-1)<h j:=fun j h0 hj=>by
  have:=ha j hj;unfold DZ at this;simp only[Bool.and_eq_true,Bool.or_eq_true,beq_iff_eq,decide_eq_true_eq]at this;rcases this.2 with h|h
  ·omega
  ·exact h
 intro i j hij hj;induction j with
 |zero=>omega
 |succ j ih=>
  have h1:=one (j+1) (by omega) hj;simp only[Nat.add_sub_cancel]at h1;by_cases e:i=j
  ·subst e;exact h1
  ·have:=ih (by omega) (by omega);omega
theorem SI(e:Ci n h=true):((List.range n).map h).Pairwise (· <·):=by
 rw[List.pairwise_iff_getElem];intro i j hi hj hij;simp only[List.length_map,List.length_range]at hi hj;simpa using WM e i j hij hj
structure Env(E:Nat->Addr)(w:World)(B P:Nat)(s:Al)(g ca q co:Nat)(lt:List Ae)(lo:List Ab)(t c C:Nat)(nb:Nat->Nat)(kv:Nat->Value)(K:Nat->List Int)(X:Ae):Prop where
 h:Ex w B P s g ca q co lt lo t (.map (some c))
 n:Eb w C c lo.length (fun i=>(Aa lo i).id) q 0 nb kv K
 e:Kr w E
 h14:14<=B
 hB:B<=w.heap.size
 ht:t<lt.length
 hX:X=lt[t]
 hs:∀W,Below B w W->s.at W
 so:s.ok=true
 ok:okL lt lo=true
 tab:Q6 w
 kid:∀u,u<lo.length->K u=IW (Aa lo) (Aa lo u).id lo.length
 ti:Kw lo
theorem NY{x:Int}(h:0<=x/\x<=1000000):(Lit.int .i64 x).wf=true:=by
 have e1:IntKind.i64.min= -9223372036854775808:=by decide
 have e2:IntKind.i64.max=9223372036854775807:=by decide
 simp only[Lit.wf,Bool.and_eq_true,decide_eq_true_eq,e1,e2];omega
theorem FR{lo:List Ab}{u:Nat}(h:u<lo.length):Aa lo u∈lo:=by rw[Az h];exact List.getElem_mem h
end Go.Proofs.YteoihknaljgocaaGreatDoor
