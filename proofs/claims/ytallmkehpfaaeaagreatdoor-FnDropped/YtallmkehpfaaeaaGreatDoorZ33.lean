import Derived.Test.YtallmkehpfaaeaaGreatDoorZ32
import Derived.Test.YtallmkehpfaaeaaGreatDoorZ9
import Derived.Test.YtallmkehpfaaeaaGreatDoorZ14
import Derived.Test.YtallmkehpfaaeaaGreatDoorZ2
import Derived.LaidEql
import Derived.Stop.Asserts
import Derived.RowKitTokens
import Derived.Test.YtallmkehpfaaeaaGreatDoorZ13
import Derived.Test.YtallmkehpfaaeaaGreatDoorZ0
import Derived.Test.YtallmkehpfaaeaaGreatDoorZ10
import Derived.Deep.DeepCutAuto
import Derived.RangeFuncNested
import Derived.RangeFuncBound
import Derived.RangeFuncCalls
import Derived.RangeFuncLeaves
set_option maxRecDepth 100000
set_option maxHeartbeats 2000000
namespace Go.Proofs.YtallmkehpfaaeaaGreatDoor
open Go Go.RowKit Go.Deep Go.Maps Go.BigFrame Go.Shelf
def wkCs(s:StepV)(g nt ca q no co t:Nat)(m:Value):Array Value:=#[.int .i64 s.th,.int .i64 s.kind,.int .i64 s.id,.int .i64 s.to,.int .i64 s.cat,.string s.data,.int .i64 s.b1,.slice s.c1.a s.c1.n s.c1.k,.int .i64 s.b2,.slice s.c2.a s.c2.n s.c2.k,.slice (some ⟨g,0,none⟩) nt ca,.slice (some ⟨q,0,none⟩) no co,.pointer (some ⟨g,t*7,none⟩),m]
structure WSt(wr:World)(B P:Nat)(s:StepV)(g ca q co:Nat)(lt:List ThrV)(lo:List ObjV)(t:Nat)(m:Value):Prop where
 st:KSt wr B (.slice (some ⟨g,0,none⟩) lt.length ca) (.slice (some ⟨q,0,none⟩) lo.length co) lt lo
 ap:Apart lt lo
 wk:Blk wr P (.cells (wkCs s g lt.length ca q lo.length co t m) 117)
 lp:B≤P
theorem Blk.work{W:World}{P ty:Nat}{s:StepV}{g nt ca q no co t:Nat}{m:Value}(h:Blk W P (.cells (wkCs s g nt ca q no co t m) ty)):
 (W.cell? ⟨P,0,none⟩=some (.int .i64 s.th)∧W.cell? ⟨P,1,none⟩=some (.int .i64 s.kind)∧W.cell? ⟨P,2,none⟩=some (.int .i64 s.id)∧W.cell? ⟨P,3,none⟩=some (.int .i64 s.to)∧W.cell? ⟨P,4,none⟩=some (.int .i64 s.cat)∧W.cell? ⟨P,5,none⟩=some (.string s.data)∧W.cell? ⟨P,6,none⟩=some (.int .i64 s.b1)∧W.cell? ⟨P,7,none⟩=some (.slice s.c1.a s.c1.n s.c1.k)∧W.cell? ⟨P,8,none⟩=some (.int .i64 s.b2)∧W.cell? ⟨P,9,none⟩=some (.slice s.c2.a s.c2.n s.c2.k))∧
 W.cell? ⟨P,10,none⟩=some (.slice (some ⟨g,0,none⟩) nt ca)∧W.cell? ⟨P,11,none⟩=some (.slice (some ⟨q,0,none⟩) no co)∧W.cell? ⟨P,12,none⟩=some (.pointer (some ⟨g,t*7,none⟩))∧W.cell? ⟨P,13,none⟩=some m:=by
 unfold Blk wkCs at h;simp[World.cell?,h]
section
variable {wr w':World}{B P:Nat}{s:StepV}{g ca q co:Nat}{lt:List ThrV}{lo:List ObjV}{t:Nat}{m:Value}
theorem WSt.below(h:WSt wr B P s g ca q co lt lo t m)(hb:Below wr.heap.size wr w'):WSt w' B P s g ca q co lt lo t m:=
 ⟨h.st.below hb,h.ap,h.wk.below hb,h.lp⟩
end
theorem flat_one:∀{L:List (List Nat)}{t:Nat}{l:List Nat} (l':List Nat),L[t]? =some l→∃R:List Nat,L.flatten.Perm (l++R)∧(L.set t l').flatten.Perm (l'++R)
 |[],t,l,_,h=>by simp at h
 |x::L,0,l,l',h=>by
  simp only[List.getElem?_cons_zero,Option.some.injEq]at h;subst h;exact⟨L.flatten,by simp,by simp⟩
 |x::L,t+1,l,l',h=>by
  simp only[List.getElem?_cons_succ]at h;obtain⟨R,h1,h2⟩:=flat_one l' h;refine⟨x++R,?_,?_⟩
  ·simp only[List.flatten_cons];refine(h1.append_left x).trans ?_;rw[←List.append_assoc,←List.append_assoc];exact List.perm_append_comm.append_right R
  ·simp only[List.set_cons_succ,List.flatten_cons];refine(h2.append_left x).trans ?_;rw[←List.append_assoc,←List.append_assoc];exact List.perm_append_comm.append_right R
theorem nodup_swap{l l' R:List Nat}{M:Nat}(h:(l++R).Nodup)(h1:l'.Nodup)(h2:∀x∈l',x∈l∨M≤x)(h3:∀x∈l++R,x<M):(l'++R).Nodup:=by
 rw[List.nodup_append]at h ⊢;refine⟨h1,h.2.1,fun x hx y hy e=>?_⟩;subst e;rcases h2 x hx with a|a
 ·exact h.2.2 x a x hy rfl
 ·have:=h3 x (List.mem_append.2 (.inr hy));omega
theorem flat_swap{L:List (List Nat)}{S:List Nat}{t M:Nat}{l:List Nat}(l':List Nat)(hl:L[t]? =some l)(h:(L.flatten++S).Nodup)(h1:l'.Nodup)(h2:∀x∈l',x∈l∨M≤x)(h3:∀x∈L.flatten++S,x<M):((L.set t l').flatten++S).Nodup:=by
 obtain⟨R,p1,p2⟩:=flat_one l' hl;have q1:(L.flatten++S).Perm (l++(R++S)):=by rw[←List.append_assoc];exact p1.append_right S
 have q2:((L.set t l').flatten++S).Perm (l'++(R++S)):=by rw[←List.append_assoc];exact p2.append_right S
 exact q2.nodup_iff.2 (nodup_swap (q1.nodup_iff.1 h) h1 h2 (fun x hx=>h3 x (q1.mem_iff.2 hx)))
theorem flat_part{L:List (List Nat)}{S:List Nat}{t:Nat}{l:List Nat}(hl:L[t]? =some l)(h:(L.flatten++S).Nodup):l.Nodup:=by
 obtain⟨R,p1,_⟩:=flat_one [] hl;exact(List.nodup_append.1 (p1.nodup_iff.1 (List.nodup_append.1 h).1)).1
theorem Apart.setT{w:World}{B:Nat}{vt vo:Value}{lt:List ThrV}{lo:List ObjV}(h:Apart lt lo)(hk:KSt w B vt vo lt lo){t:Nat}(ht:t<lt.length){x:ThrV}(hn:x.cb.Nodup)(hc:∀b∈x.cb,b∈lt[t].cb∨w.heap.size≤b)(hd:x.own.bs.Nodup)(hi:∀b∈x.own.bs,b∈lt[t].own.bs∨w.heap.size≤b):Apart (lt.set t x) lo:=by
 obtain⟨k1,k2,_⟩:=hk.low3;refine⟨?_,?_,h.s⟩
 ·rw[List.map_set];exact flat_swap x.cb (l:=lt[t].cb) (by simp[ht]) h.c hn hc k1
 ·rw[List.map_set];exact flat_swap x.own.bs (l:=lt[t].own.bs) (by simp[ht]) h.i hd hi k2
theorem Apart.setO{w:World}{B:Nat}{vt vo:Value}{lt:List ThrV}{lo:List ObjV}(h:Apart lt lo)(hk:KSt w B vt vo lt lo){t:Nat}(ht:t<lo.length){x:ObjV}(hn:x.cb.Nodup)(hc:∀b∈x.cb,b∈lo[t].cb∨w.heap.size≤b)(hd:x.own.bs.Nodup)(hi:∀b∈x.own.bs,b∈lo[t].own.bs∨w.heap.size≤b)(he:x.items.bs.Nodup)(hs:∀b∈x.items.bs,b∈lo[t].items.bs∨w.heap.size≤b):Apart lt (lo.set t x):=by
 obtain⟨k1,k2,k3⟩:=hk.low3;refine⟨?_,?_,?_⟩
 ·rw[List.map_set];refine List.perm_append_comm.nodup_iff.2 (flat_swap x.cb (l:=lo[t].cb) (by simp[ht]) (List.perm_append_comm.nodup_iff.2 h.c) hn hc (fun b hb=>k1 b (List.perm_append_comm.mem_iff.2 hb)))
 ·rw[List.map_set];refine List.perm_append_comm.nodup_iff.2 (flat_swap x.own.bs (l:=lo[t].own.bs) (by simp[ht]) (List.perm_append_comm.nodup_iff.2 h.i) hd hi (fun b hb=>k2 b (List.perm_append_comm.mem_iff.2 hb)))
 ·rw[List.map_set];have:=flat_swap x.items.bs (S:=[]) (L:=lo.map fun x=>x.items.bs) (t:=t) (l:=lo[t].items.bs) (by simp[ht]) (by rw[List.append_nil];exact h.s) he hs (by rw[List.append_nil];exact k3);rw[List.append_nil]at this;exact this
theorem WSt.setP{wr:World}{B P:Nat}{s:StepV}{g ca q co:Nat}{lt:List ThrV}{lo:List ObjV}{t:Nat}{m:Value}(h:WSt wr B P s g ca q co lt lo t m):P≠g∧P<wr.heap.size:=by
 refine⟨fun e=>?_,h.wk.lt⟩;have ht:=h.st.t;rcases ht.2 with⟨hv,_⟩|⟨g',cap,cur,hv,_,hgg,_⟩
 ·cases hv
 ·cases hv;have hw:=h.wk;unfold Blk at hw;rw[e,hgg]at hw;simp at hw
theorem WSt.setMade{wr:World}{B P:Nat}{s:StepV}{g ca q co:Nat}{lt:List ThrV}{lo:List ObjV}{t:Nat}{m:Value}(h:WSt wr B P s g ca q co lt lo t m){n:Int}(ht:t<lt.length){X:ThrV}(hX:X=lt[t]):
 WSt (wr.setCell ⟨g,t*7+6,none⟩ (.int .i64 n)) B P s g ca q co (lt.set t ⟨X.id,X.b1,X.c1,X.b2,X.c2,X.own,n⟩) lo t m∧B≤g∧∃cur,Blk wr g (.cells cur 42):=by
 obtain⟨k1,⟨cur,hc⟩,hg⟩:=h.st.setMade (m:=n) ht hX;have el:(lt.set t (⟨X.id,X.b1,X.c1,X.b2,X.c2,X.own,n⟩:ThrV)).length=lt.length:=by simp
 have hn:X.cb.Nodup:=flat_part (L:=lt.map ThrV.cb) (t:=t) (by simp[ht,hX]) h.ap.c;have hd:X.own.bs.Nodup:=flat_part (L:=lt.map fun x=>x.own.bs) (t:=t) (by simp[ht,hX]) h.ap.i;refine⟨⟨by rw[el];exact k1,h.ap.setT h.st ht (x:=⟨X.id,X.b1,X.c1,X.b2,X.c2,X.own,n⟩) hn (fun b hb=> .inl (by rw[←hX];exact hb)) hd (fun b hb=> .inl (by rw[←hX];exact hb)),by rw[el];exact h.wk.other (Ne.symm h.setP.1) _,h.lp⟩,hg,cur,hc⟩
open Go.Extern.Stop Go.Stop Go.Extern
theorem refused_any(c:Int)(u:TypeId)(v:Value)(w:World):
 Calls Tryz.prog 69 #[.int .i64 c,.iface u v] w fun e w'=>e= .returned (.iface 66 (.pointer (some ⟨w.heap.size,0,none⟩)))∧w'=w.alloc (.cells #[.int .i64 c,.iface u v] 71):=by
 go_enter Tryz.func69,Tryz.ntmps69
 go_wp2;go_ret;exact⟨rfl,rfl⟩
theorem denied_any(u:TypeId)(v:Value)(w:World):
 Calls Tryz.prog 145 #[.iface u v] w fun e w'=>e= .returned (.iface 66 (.pointer (some ⟨w.heap.size,0,none⟩)))∧w'=w.alloc (.cells #[.int .i64 4,.iface u v] 71):=by
 go_enter Tryz.func145,Tryz.ntmps145
 go_wp2_with fail
 refine(refused_any 4 u v w).mono ?_;rintro e w' ⟨rfl,rfl⟩;go_wp2;go_ret;exact⟨rfl,rfl⟩
theorem as_none(t:Value)(w:World):Calls Tryz.prog 33 #[.nilIface,t] w fun e w'=>e= .returned (.bool false)∧w'=w:=by
 go_enter Tryz.func33,Tryz.ntmps33
 go_wp2;go_ret;exact⟨rfl,rfl⟩
theorem is_none(u:TypeId)(v:Value)(w:World):Calls Tryz.prog 32 #[.nilIface,.iface u v] w fun e w'=>e= .returned (.bool false)∧w'=w:=by
 have hn:=run_eql_iface_nil_left (P:=Tryz.prog) w u v Tryz.underlying62;go_enter Tryz.func32,Tryz.ntmps32
 go_wp2;go_ret;exact⟨rfl,rfl⟩
theorem e_typeOf(v:Value)(w:World):(Extern.ReflectliteType.typeOf #[.iface 264 v]).run Tryz.prog w= .ok (.iface 156 (.agg #[.pointer (some ⟨18,264,none⟩)])) w:=by kernel_rfl
theorem e_comparable(w:World):((Extern.ReflectliteType.method fun t=>do Rtype.noPackHeld "Comparable" t;(fun a=>Value.bool a.comparable)<$>typeInfo t) #[.agg #[.pointer (some ⟨18,264,none⟩)]]).run Tryz.prog w= .ok (.bool true) w:=by kernel_rfl
theorem e_mComparable(v:Value)(w:World):(Go.method 395 156 v "Comparable").run Tryz.prog w= .ok (241,v) w:=by kernel_rfl
theorem e_comp:(Tryz.prog.info? 264).map (·.comparable)=some true:=by kernel_rfl
theorem e_size:(Tryz.prog.info? 283).map (·.size)=some 1:=by kernel_rfl
theorem e_noIs(v:Value)(xT:TypeId)(w:World):(Instr.typeAssert (.iface 264 v) xT 158 true).run Tryz.prog w= .ok (.tuple #[.nilIface,.bool false]) w:=run_typeAssert_lacksB Tryz.underlying158 (by kernel_rfl) (by kernel_rfl) v xT w
theorem e_noUnwrap(v:Value)(xT:TypeId)(w:World):(Instr.typeAssert (.iface 264 v) xT 161 true).run Tryz.prog w= .ok (.tuple #[.nilIface,.bool false]) w:=run_typeAssert_lacksB Tryz.underlying161 (by kernel_rfl) (by kernel_rfl) v xT w
theorem e_noUnwraps(v:Value)(xT:TypeId)(w:World):(Instr.typeAssert (.iface 264 v) xT 162 true).run Tryz.prog w= .ok (.tuple #[.nilIface,.bool false]) w:=run_typeAssert_lacksB Tryz.underlying162 (by kernel_rfl) (by kernel_rfl) v xT w
theorem r_noIs(v:Value)(xT:TypeId)(w:World):(Instr.typeAssert (.iface 66 v) xT 158 true).run Tryz.prog w= .ok (.tuple #[.nilIface,.bool false]) w:=run_typeAssert_lacksB Tryz.underlying158 (by kernel_rfl) (by kernel_rfl) v xT w
theorem r_hasUnwrap(v:Value)(xT:TypeId)(w:World):(Instr.typeAssert (.iface 66 v) xT 161 true).run Tryz.prog w= .ok (.tuple #[.iface 66 v,.bool true]) w:=run_typeAssert_hasB Tryz.underlying161 (by kernel_rfl) v xT w
theorem r_mUnwrap(v:Value)(w:World):(Go.method 395 66 v "Unwrap").run Tryz.prog w= .ok (234,v) w:=by kernel_rfl
theorem is_yes(r:Nat)(c:Int)(b:Addr)(w:World)(hr:Blk w r (.cells #[.int .i64 c,.iface 264 (.pointer (some b))] 71)):
 Calls Tryz.prog 32 #[.iface 66 (.pointer (some ⟨r,0,none⟩)),.iface 264 (.pointer (some b))] w fun e w'=>e= .returned (.bool true)∧w'=w:=by
 obtain⟨i,hi,hcmp⟩:=Option.map_eq_some_iff.1 e_comp;obtain⟨j,hj,hjs⟩:=Option.map_eq_some_iff.1 e_size;have h8:=@run_callFunc_extern Tryz.prog 71 _ Extern.ReflectliteType.typeOf Tryz.func71 (by kernel_rfl) (by kernel_rfl) (by kernel_rfl) (by kernel_rfl);have h32:=@run_callFunc_extern Tryz.prog 241 _ (Extern.ReflectliteType.method fun t=>do Rtype.noPackHeld "Comparable" t;pure (.bool (←typeInfo t).comparable)) Tryz.func241 (by kernel_rfl) (by kernel_rfl) (by kernel_rfl) (by kernel_rfl);have tT:=e_typeOf;have cT:=e_comparable;have mR:=e_mComparable;have nE:=e_noIs;have uE:=e_noUnwrap;have vE:=e_noUnwraps;have nW:=r_noIs;have uW:=r_hasUnwrap;have mU:=r_mUnwrap;obtain⟨q0,q1⟩:=hr.two;have heq:=run_eql_iface_ptr_same (P:=Tryz.prog) w b Tryz.underlying62 Tryz.underlying264 hi hcmp hj;have hty:=run_eql_iface_types (P:=Tryz.prog) 66 264 (.pointer (some ⟨r,0,none⟩)) (.pointer (some b)) Tryz.underlying62 (by decide) w;go_enter Tryz.func32,Tryz.ntmps32
 go_wp2;refine wp_loop_rounds 2 ?_;rw[rounds_succ];go_wp2;rw[rounds_succ];go_wp2;go_ret;exact⟨rfl,rfl⟩
theorem is_not(r:Nat)(c:Int)(a b:Addr)(ca cb:Array Value)(ta tb:TypeId)(w:World)(hr:Blk w r (.cells #[.int .i64 c,.iface 264 (.pointer (some a))] 71))(hne:a≠b)(ha:w.heap[a.block]? =some (.cells ca ta (0,0)))(hb:w.heap[b.block]? =some (.cells cb tb (0,0))):
 Calls Tryz.prog 32 #[.iface 66 (.pointer (some ⟨r,0,none⟩)),.iface 264 (.pointer (some b))] w fun e w'=>e= .returned (.bool false)∧w'=w:=by
 obtain⟨i,hi,hcmp⟩:=Option.map_eq_some_iff.1 e_comp;obtain⟨j,hj,hjs⟩:=Option.map_eq_some_iff.1 e_size;have h8:=@run_callFunc_extern Tryz.prog 71 _ Extern.ReflectliteType.typeOf Tryz.func71 (by kernel_rfl) (by kernel_rfl) (by kernel_rfl) (by kernel_rfl);have h32:=@run_callFunc_extern Tryz.prog 241 _ (Extern.ReflectliteType.method fun t=>do Rtype.noPackHeld "Comparable" t;pure (.bool (←typeInfo t).comparable)) Tryz.func241 (by kernel_rfl) (by kernel_rfl) (by kernel_rfl) (by kernel_rfl);have tT:=e_typeOf;have cT:=e_comparable;have mR:=e_mComparable;have nE:=e_noIs;have uE:=e_noUnwrap;have vE:=e_noUnwraps;have nW:=r_noIs;have uW:=r_hasUnwrap;have mU:=r_mUnwrap;obtain⟨q0,q1⟩:=hr.two;have heq:=run_eql_iface_ptr_other (P:=Tryz.prog) w Tryz.underlying62 Tryz.underlying264 hi hcmp hj (by rw[hjs];decide) hne ha hb;have hty:=run_eql_iface_types (P:=Tryz.prog) 66 264 (.pointer (some ⟨r,0,none⟩)) (.pointer (some b)) Tryz.underlying62 (by decide) w;go_enter Tryz.func32,Tryz.ntmps32
 go_wp2;refine wp_loop_rounds 2 ?_;rw[rounds_succ];go_wp2;rw[rounds_succ];go_wp2;go_ret;exact⟨rfl,rfl⟩
theorem levelsOf_any(base:Int)(a:Option Addr)(n cap:Nat)(f g:Nat→Int)(w:World)(hn:n≤1048576)(hc:CatsAt w a n f g)
 (hw:∀i,i<n→(Lit.int .i64 (f i)).wf=true∧(Lit.int .i64 (g i)).wf=true):
 Calls Tryz.prog 96 #[.agg #[.int .i64 base,.slice a n cap]] w fun e w'=>∃c,e= .returned (.agg #[.int .i64 base,.map (some c)])∧w.heap.size≤c∧MapIs w' c n (look f g n)∧w.heap.size+3<w'.heap.size∧Below w.heap.size w w':=by
 have hmm:=@run_makeMap Tryz.prog;go_enter Tryz.func96,Tryz.ntmps96
 go_wp2;go_loopw [13] (fun i wr=>∃k:Nat,k≤n∧i= .int .i64 k∧MapIs wr (w.heap.size+1+1) k (look f g k)∧wr.cell? ⟨w.heap.size+1+1+1,0,none⟩=some (.int .i64 base)∧wr.cell? ⟨w.heap.size+1+1+1,1,none⟩=some (.map (some (w.heap.size+1+1)))∧
  wr.cell? ⟨w.heap.size+1,0,none⟩=some (.int .i64 0)∧wr.cell? ⟨w.heap.size+1,1,none⟩=some (.map none)∧wr.frozen? ⟨w.heap.size+1,0,none⟩=false∧wr.frozen? ⟨w.heap.size+1,1,none⟩=false∧w.heap.size+1+1+1<wr.heap.size∧Below w.heap.size w wr) (fun i _=>n-(intOf i).toNat)
 case atStart=>
  refine⟨0,Nat.zero_le _,rfl,?_,by go_simp,by go_simp,by go_simp,by go_simp,by go_simp,by go_simp,by simp,?_⟩
  ·have:=(MapIs.made ((w.alloc (.cells #[.int .i64 base,.slice a n cap] 30)).alloc (.cells #[.int .i64 0,.map none] 145))).alloc (.cells #[.int .i64 base,.map (some (w.heap.size+1+1))] 145);simpa[look]using this
  ·exact((((Below.refl _ w).alloc (Nat.le_refl _) _).alloc (by simp) _).alloc (by simp;omega) _).alloc (by simp;omega) _
 case round=>
  obtain⟨k,hk,rfl,⟨D,hown,hD,hm⟩,x0,x1,y0,y1,f0,f1,hz,hB⟩:=hrel;clear hmm;by_cases hlt':k<n
  ·obtain⟨b,off,rfl,hlt,hcc⟩:=hc (by omega);obtain⟨h1,h2⟩:=hcc k hlt';obtain⟨w1,w2⟩:=hw k hlt';have g1:wr.cell? ⟨b,off+k*2,none⟩=some (.int .i64 (f k)):=(hB.cell (p:=⟨b,_,none⟩) hlt).trans h1;have g2:wr.cell? ⟨b,off+k*2+1,none⟩=some (.int .i64 (g k)):=(hB.cell (p:=⟨b,_,none⟩) hlt).trans h2;clear h1 h2 hcc hc;have hkey:keyOf Tryz.prog 2 (.int .i64 (f k))=some (.int .i64 (f k)):=keyOf_int_mk Tryz.underlying2 w1;have W2:Hid ((Lit.int .i64 (g k)).wf=true):=w2;clear w1 w2;go_wp2_with(at_mapUpdate;refine wpList_mapUpdate_own _ rfl _ _ _ 138 rfl 2 2 keyed2 Tryz.underlying138 _ (w.heap.size+1+1) k _ rfl (hown.alloc _) (by unfold maxLen;omega) _ _ _ rfl rfl hkey _ [] (plainElem_int Tryz.underlying2 W2.out) ?_;intro w1 hown1 hgrow1)
   have hm1:=MapIs.put (k:=f k) (v:=g k) hD hm;rw[look_setAt]at hm1;have s1:w.heap.size+1+1+1<(wr.alloc (.cells #[.int .i64 (f k),.int .i64 (g k)] 95)).heap.size:=(by simp;omega);go_roundw;case rel=>
    refine⟨k+1,by omega,by go_num,⟨_,hown1,hm1.1,hm1.2⟩,?_,?_,?_,?_,?_,?_,Nat.lt_of_lt_of_le s1 hgrow1.size,?_⟩
    ·exact(grown_cell hgrow1 s1 (by omega)).trans (((Below.refl _ wr).alloc (Nat.le_refl _) _).cell (p:=⟨_,_,none⟩) hz |>.trans x0)
    ·exact(grown_cell hgrow1 s1 (by omega)).trans (((Below.refl _ wr).alloc (Nat.le_refl _) _).cell (p:=⟨_,_,none⟩) hz |>.trans x1)
    ·exact(grown_cell hgrow1 (by omega) (by omega)).trans (((Below.refl _ wr).alloc (Nat.le_refl _) _).cell (p:=⟨_,_,none⟩) (by dsimp only;omega) |>.trans y0)
    ·exact(grown_cell hgrow1 (by omega) (by omega)).trans (((Below.refl _ wr).alloc (Nat.le_refl _) _).cell (p:=⟨_,_,none⟩) (by dsimp only;omega) |>.trans y1)
    ·exact(grown_frozen hgrow1 (by omega) (by omega)).trans (((Below.refl _ wr).alloc (Nat.le_refl _) _).frozen (p:=⟨_,_,none⟩) (by dsimp only;omega) |>.trans f0)
    ·exact(grown_frozen hgrow1 (by omega) (by omega)).trans (((Below.refl _ wr).alloc (Nat.le_refl _) _).frozen (p:=⟨_,_,none⟩) (by dsimp only;omega) |>.trans f1)
    ·exact(hB.alloc (by omega) _).grown hgrow1 (by omega) (fun j hj=>by cases hj;omega)
   case measure=>simp[intOf];omega
  ·clear hc;have e:k=n:=(by omega);have HM:MapIs wr (w.heap.size+1+1) n (look f g n):=(by rw[←e];exact⟨D,hown,hD,hm⟩);clear hown hD hm e;go_wp2;refine bodyPost_ret (v:= .agg #[.int .i64 base,.map (some (w.heap.size+1+1))]) (by simp[results,Tryz.results96,go_sem, *]) rfl ⟨_,rfl,by omega,?_,?_,?_⟩
   ·exact(HM.setCell (by dsimp only;omega) _).setCell (by dsimp only;omega) _
   ·simpa using hz
   ·exact(hB.setCell (by dsimp only;omega) _).setCell (by dsimp only;omega) _
open Go.Sort
open Go.WideShapes (add_plain)
theorem Tryz.sortsA(m:Nat):AnyZI.SortsIn Tryz.prog Tryz.sortedA_ren Fence.wide m:=
 ⟨fun blk off cap ss W hH hblk hsz=>callsIn_wide.2 (AnyM.slices_Sort_int Tryz.sortA blk off cap ss W hH hblk hsz),
  fun p cap W=>callsIn_wide.2 (AnyM.slices_Sort_int_none Tryz.sortA p cap W)⟩
theorem keys_any(mb:Option Nat)(W:World):Calls Tryz.prog 133 #[.map mb] W fun e w'=>e= .returned (.func (.func 158) #[] #[.pointer (some ⟨W.heap.size,0,none⟩)])∧w'=W.alloc (.cells #[.map mb] 138):=
 (callsIn_wide (n:=5)).1 (AnyZI.keys_in Tryz.keysA Fence.wide 5 trivial rfl mb W)
theorem mem_intKeys{w:World}{b n:Nat}{D:DataW Unit}(hown:w.ownsMap Tryz.prog 2 (plainElem Tryz.prog 2) b n D):(intKeys D).Nodup∧∀x,x∈intKeys D↔Maps.has D (.int .i64 x)=true:=by
 obtain⟨es,hD,hpw,_⟩:=hown.entries keyed2;obtain⟨es',hD',hko⟩:=hown.keysOf;obtain rfl:es=es':=by rw[hD]at hD';simpa using hD'
 subst hD;have hk:∀p∈es,∃x,p.1= .int .i64 x:=fun p hp=>by
  obtain⟨v,hv⟩:=hko p hp;obtain⟨x,_,hx,_⟩:=Maps.keyOf_i64 Tryz.underlying2 hv;exact⟨x,hx⟩
 constructor
 ·show(es.map fun p=>Go.intOf p.1).Nodup;refine List.pairwise_map.2 (hpw.imp_of_mem fun{p q} hp' hq' hne e=>hne ?_);obtain⟨a,ha⟩:=hk p hp';obtain⟨b,hb⟩:=hk q hq';rw[ha,hb]at e ⊢;exact congrArg _ e
 ·intro x;rw[has_eq,List.any_eq_true];show x∈es.map (fun p=>Go.intOf p.1)↔_;rw[List.mem_map];constructor
  ·rintro⟨p,hp',rfl⟩;obtain⟨a,ha⟩:=hk p hp';exact⟨p,hp',by rw[ha];simp[Lit.sameKey,Go.intOf]⟩
  ·rintro⟨p,hp',hs⟩;obtain⟨a,ha⟩:=hk p hp';rw[ha]at hs;exact⟨p,hp',by rw[ha];simpa[Lit.sameKey,Go.intOf]using hs⟩
def nth(l:List Int)(i:Nat):Int:=l.getD i 0
theorem rises_sorted{l:List Int}(hs:l.Pairwise (fun a b=>a≤b))(hn:l.Nodup):∀j,j<l.length→∀i,i<j→nth l i<nth l j:=by
 intro j hj i hi;have hp:=hs.and hn;have:=List.pairwise_iff_getElem.1 hp i j (by omega) hj hi;simp only[nth,List.getD_eq_getElem?_getD,List.getElem?_eq_getElem hj,List.getElem?_eq_getElem (show i<l.length by omega),Option.getD_some];have h1:=this.1;have h2:=this.2;omega
theorem IntsAt.of_owns{w:World}{B n:Nat}{v:Value}{l:List Int}(h:w.ownsRow B 2 1 v n (l.map Go.encZ)):l.length=n∧∃a c,v= .slice a n c∧IntsAt w a n (nth l)∧∀x,a=some x→B≤x.block:=by
 have hl:l.length=n:=by have:=h.1;simpa using this
 refine⟨hl,?_⟩;rcases h.2 with⟨rfl,rfl⟩|⟨gb,cap,cur,rfl,_⟩
 ·exact⟨_,_,rfl,(fun h0=>by omega),fun x e=>by cases e⟩
 ·refine⟨_,_,rfl,fun h0=>?_,fun x e=>by cases e;exact(World.ownsRow.lt h gb rfl).1⟩;have hc:=World.ownsRow.cells h (g:=gb) rfl;have hlt:=(World.ownsRow.lt h gb rfl).2;refine⟨gb,0,rfl,hlt,fun i hi=>?_⟩;have hi':i<l.length:=by omega
  have t:=hc i (Go.encZ l[i]) (by simp[hi']);rw[add_plain]at t;rw[t];simp[nth,hi']
def KeysAre(w:World)(b n:Nat)(p:Int→Bool):Prop:=
 ∃D:DataW Unit,w.ownsMap Tryz.prog 2 (plainElem Tryz.prog 2) b n D∧∀x,Maps.has D (.int .i64 x)=p x
theorem MapIs.keys{w:World}{b n:Nat}{m:Int→Option Int}(h:MapIs w b n m):KeysAre w b n (fun x=>(m x).isSome):=by
 obtain⟨D,h1,_,h3⟩:=h;exact⟨D,h1,fun x=>(h3 x).1⟩
theorem sorted_any(b nn:Nat)(p:Int→Bool)(w:World)(hm:KeysAre w b nn p)(hnn:nn≤4194304):
 Calls Tryz.prog 132 #[.func (.func 158) #[] #[.pointer (some ⟨w.heap.size,0,none⟩)]] (w.alloc (.cells #[.map (some b)] 138)) fun e w'=>∃(a:Option Addr) (n cap:Nat) (h:Nat→Int),e= .returned (.slice a n cap)∧n≤nn∧
  IntsAt w' a n h∧(∀x,(∃i,i<n∧h i=x)↔p x=true)∧(∀j,j<n→∀i,i<j→h i<h j)∧(∀i,i<n→(Lit.int .i64 (h i)).wf=true)∧(∀x,a=some x→w.heap.size≤x.block)∧Below w.heap.size w w':=by
 obtain⟨D,hown,hall⟩:=hm;have hbl:=hown.lt;have hsz:=hown.size_le;have hseq:SeqGives Fence.wide 2 Tryz.prog 158 #[.pointer (some ⟨w.heap.size,0,none⟩)] Go.encZ (fun ss=>ss.Perm (intKeys D)) (Maps.size D) (w.alloc (.cells #[.map (some b)] 138)):=
  AnyZI.keys_gives (ρ:=Tryz.keysA_ren) {Tryz.keysA with} Fence.wide _ trivial rfl (by omega) w.heap.size b nn D _ (by simp) (by simp) (by
   obtain⟨es,clock,hb,Ft,hs,hD⟩:=hown;exact⟨es,clock,(Below.heap_alloc _ _ b hbl).trans hb,Ft,hs,hD⟩)
 have cS:=AnyZI.sorted_in Tryz.sortedA Fence.wide 5 trivial trivial trivial trivial rfl (by omega) (Tryz.sortsA _) (enters_of Tryz.func101 (by kernel_rfl) rfl) 158 #[.pointer (some ⟨w.heap.size,0,none⟩)] trivial (enters_of Tryz.func158 (by kernel_rfl) rfl) _ _ (by unfold maxLen;omega) (by omega) _ hseq;change CallsIn _ _ Tryz.prog 132 _ _ _ at cS;refine((callsIn_wide (n:=5)).1 cS).mono ?_;rintro e w' ⟨v,ss,rfl,hp,hrow,_,hb⟩;obtain⟨hnd,hmem⟩:=mem_intKeys hown;have hq:(ss.mergeSort (fun x y=>decide (x≤y))).Perm (intKeys D):=(List.mergeSort_perm ss _).trans hp;obtain⟨hlen,a,c,rfl,hat,hnew⟩:=IntsAt.of_owns (B:=_) hrow;have hle:ss.length≤nn:=by
  have h1:=hp.length_eq;have h2:(intKeys D).length=Maps.size D:=by
   obtain⟨es,rfl,_⟩:=hown.keysOf;simp[intKeys,Maps.size]
  omega
 have tr:∀a b c:Int,decide (a≤b)=true→decide (b≤c)=true→decide (a≤c)=true:=fun a b c h1 h2=>by simp only[decide_eq_true_eq]at *;omega
 have tO:∀a b:Int,(decide (a≤b)||decide (b≤a))=true:=fun a b=>by simp only[Bool.or_eq_true,decide_eq_true_eq];omega
 have hsorted:=(List.pairwise_mergeSort (le:=fun x y=>decide (x≤y)) tr tO ss).imp (fun{a b} h=>by simpa using h:∀{a b:Int},_→a≤b);refine⟨a,ss.length,c,nth (ss.mergeSort (fun x y=>decide (x≤y))),rfl,hle,hat,fun x=>?_,?_,fun i hi=>?_,fun x e=>by have:=hnew x e;simp at this;omega,?_⟩
 ·rw[←hall x,←hmem x,←hq.mem_iff];constructor
  ·rintro⟨i,hi,rfl⟩;have hi':i<(ss.mergeSort (fun x y=>decide (x≤y))).length:=(by omega);simp only[nth,List.getD_eq_getElem?_getD,List.getElem?_eq_getElem hi',Option.getD_some];exact List.getElem_mem hi'
  ·intro hx;obtain⟨i,hi,rfl⟩:=List.mem_iff_getElem.1 hx;exact⟨i,by omega,by simp only[nth,List.getD_eq_getElem?_getD,List.getElem?_eq_getElem hi,Option.getD_some]⟩
 ·have:=rises_sorted hsorted (hq.nodup_iff.2 hnd);rw[hlen]at this;exact this
 ·have hi':i<(ss.mergeSort (fun x y=>decide (x≤y))).length:=by omega
  refine intKeys_wf hown Tryz.underlying2 _ (hq.mem_iff.1 ?_);simp only[nth,List.getD_eq_getElem?_getD,List.getElem?_eq_getElem hi',Option.getD_some];exact List.getElem_mem hi'
 ·exact((Below.refl _ w).alloc (Nat.le_refl _) _).trans (hb.mono (by simp))
theorem clone_any(b nn:Nat)(m:Int→Option Int)(w:World)(hm:MapIs w b nn m):
 Calls Tryz.prog 130 #[.map (some b)] w fun e w'=>e= .returned (.map (some w.heap.size))∧KeysAre w' w.heap.size nn (fun x=>(m x).isSome)∧Below w.heap.size w w':=by
 obtain⟨D,hown,hall⟩:=hm.keys;have hcon:=AnyW.maps_Clone_owns Tryz.cloneA 2 (plainElem Tryz.prog 2) b nn D w hown;change Calls Tryz.prog 130 _ _ _ at hcon;refine hcon.mono ?_;rintro e w' ⟨rfl,h1,_,hB⟩;exact⟨rfl,⟨D,h1,hall⟩,hB⟩
theorem has_merge{w w':World}{b n b' n':Nat}{D D':DataW Unit}(h:w.ownsMap Tryz.prog 2 (plainElem Tryz.prog 2) b n D)(h':w'.ownsMap Tryz.prog 2 (plainElem Tryz.prog 2) b' n' D')(k:Lit):
 Maps.has (Lib.mergeD D D') k=(Maps.has D k||Maps.has D' k):=by
 obtain⟨es,rfl,_,hk⟩:=h'.entries keyed2;exact has_foldPut k es D (h.tidy keyed2).isMap hk
theorem copy_any(bd bs nd ns:Nat)(p q:Int→Bool)(w:World)(hd:KeysAre w bd nd p)(hs:KeysAre w bs ns q)(hne:bd≠bs)(hroom:nd+ns≤4194304):
 Calls Tryz.prog 131 #[.map (some bd),.map (some bs)] w fun e w'=>e= .returned (.tuple #[])∧KeysAre w' bd (nd+ns) (fun x=>p x||q x)∧w.grownBy w' (some bd):=by
 obtain⟨D,hD,hp⟩:=hd;obtain⟨E,hE,hq⟩:=hs;have hsz:=hE.size_le;have hcon:=AnyX.maps_Copy Tryz.copyA keyed2 (plainElem Tryz.prog 2) bd bs nd ns D E w hD hE hne (by unfold maxLen;omega);change Calls Tryz.prog 131 _ _ _ at hcon;refine hcon.mono ?_;rintro e w' ⟨rfl,h1,_,hg⟩;exact⟨rfl,⟨_,h1.mono (by omega),fun x=>by rw[has_merge hD hE,hp,hq]⟩,hg⟩
theorem namedBy_any(b1:Int)(c1 n1:Nat)(m1:Int→Option Int)(b2:Int)(c2 n2:Nat)(m2:Int→Option Int)(w:World)(h1:MapIs w c1 n1 m1)(h2:MapIs w c2 n2 m2)(hn:n1+n2≤4194304):
 Calls Tryz.prog 97 #[.agg #[.int .i64 b1,.map (some c1)],.agg #[.int .i64 b2,.map (some c2)]] w fun e w'=>∃(a:Option Addr) (n cap:Nat) (h:Nat→Int),e= .returned (.slice a n cap)∧n≤n1+n2∧
  IntsAt w' a n h∧(∀x,(∃i,i<n∧h i=x)↔((m1 x).isSome||(m2 x).isSome)=true)∧(∀j,j<n→∀i,i<j→h i<h j)∧(∀i,i<n→(Lit.int .i64 (h i)).wf=true)∧Below w.heap.size w w':=by
 have hb0:=((Below.refl _ w).alloc (Nat.le_refl _) (.cells #[.int .i64 b1,.map (some c1)] 145)).alloc (by simp) (.cells #[.int .i64 b2,.map (some c2)] 145);have lt2:=h2.lt;have e1:=h1.below hb0;go_enter Tryz.func97,Tryz.ntmps97
 go_wp2_with fail
 refine(clone_any _ _ _ _ e1).mono ?_;rintro e w1 ⟨rfl,k1,hb1⟩;obtain⟨q1,_⟩:=bcell hb1;have z1:w.heap.size+1+1≤w1.heap.size:=by have:=hb1.size;simpa using this
 have B1:Below w.heap.size w w1:=hb0.trans (hb1.mono (by simp;omega));have e2:=(h2.below B1).keys;simp at k1;go_wp2_with fail
 refine(copy_any _ _ _ _ _ _ _ k1 e2 (by omega) hn).mono ?_;rintro e w2 ⟨rfl,k2,hg2⟩;have G2:Below (w.heap.size+1+1) w1 w2:=(Below.refl _ _).grown hg2 z1 (fun k e=>by cases e;exact Nat.le_refl _);have B2:Below w.heap.size w w2:=B1.trans (G2.mono (by omega));clear q1;go_wp2_with fail
 refine(keys_any _ _).mono ?_;rintro e w3 ⟨rfl,rfl⟩;go_wp2_with fail
 refine(sorted_any _ _ _ _ k2 hn).mono ?_;rintro e w4 ⟨a,n,cap,h,rfl,hle,hat,hmem,hris,hwf,_,hb4⟩;go_wp2;go_ret;exact⟨a,n,cap,h,rfl,hle,hat,hmem,hris,hwf,B2.trans (hb4.mono B2.size)⟩
theorem look_isSome{f g:Nat→Int}{n:Nat}{x:Int}(h:(look f g n x).isSome=true):∃i,i<n∧f i=x:=by
 induction n with
 |zero=>simp[look]at h
 |succ n ih=>
  simp only[look]at h;by_cases e:f n=x
  ·exact⟨n,by omega,e⟩
  ·rw[if_neg e]at h;obtain⟨i,hi,e⟩:=ih h;exact⟨i,by omega,e⟩
theorem of_lev(base:Int)(c:Nat)(n:Nat)(f g:Nat→Int)(x:Int)(w:World)(hm:MapIs w c n (look f g n))(hx:(Lit.int .i64 x).wf=true):
 Calls Tryz.prog 98 #[.agg #[.int .i64 base,.map (some c)],.int .i64 x] w fun e w'=>e= .returned (.int .i64 (levOf base n f g x))∧Below w.heap.size w w':=of_any base c n (look f g n) x w hm hx
def Cell2(W:World)(P:Nat)(x y:Value):Prop:=W.heap[P]? =some (.cells #[x,y] 145)
theorem Cell2.new(W:World)(x y:Value):Cell2 (W.alloc (.cells #[x,y] 145)) W.heap.size x y:=blk_alloc_new _ _
theorem Cell2.lt{W:World}{P:Nat}{x y:Value}(h:Cell2 W P x y):P<W.heap.size:=(Array.getElem?_eq_some_iff.1 h).1
theorem Cell2.alloc{W:World}{P:Nat}{x y:Value}(h:Cell2 W P x y)(o:Obj):Cell2 (W.alloc o) P x y:=(blk_alloc_lt _ _ _ h.lt).trans h
theorem Cell2.drew{W:World}{P:Nat}{x y:Value}(h:Cell2 W P x y):Cell2 W.drew P x y:=h
theorem Cell2.below{W W':World}{P:Nat}{x y:Value}(h:Cell2 W P x y)(hb:Below W.heap.size W W'):Cell2 W' P x y:=(hb.block P h.lt).trans h
theorem Cell2.other{W:World}{P:Nat}{x y:Value}(h:Cell2 W P x y){a:Addr}(hne:P≠a.block)(v:Value):Cell2 (W.setCell a v) P x y:=(blk_setCell_other _ _ _ _ hne).trans h
theorem Cell2.set0{W:World}{P:Nat}{x y:Value}(h:Cell2 W P x y)(v:Value):Cell2 (W.setCell ⟨P,0,none⟩ v) P v y:=by
 unfold Cell2 at *;simp[World.setCell,Array.getElem?_modify,h]
theorem Cell2.set1{W:World}{P:Nat}{x y:Value}(h:Cell2 W P x y)(v:Value):Cell2 (W.setCell ⟨P,1,none⟩ v) P x v:=by
 unfold Cell2 at *;simp[World.setCell,Array.getElem?_modify,h]
theorem Cell2.cells{W:World}{P:Nat}{x y:Value}(h:Cell2 W P x y):W.cell? ⟨P,0,none⟩=some x∧W.cell? ⟨P,1,none⟩=some y:=by
 unfold Cell2 at h;simp[World.cell?,h]
theorem Cell2.new'{W:World}{P:Nat}{x y:Value}(h:P=W.heap.size):Cell2 (W.alloc (.cells #[x,y] 145)) P x y:=by rw[h];exact Cell2.new _ _ _
def Has2(W:World)(P:Nat):Prop:=∃x y,Cell2 W P x y
theorem Has2.new'{W:World}{P:Nat}{x y:Value}(h:P=W.heap.size):Has2 (W.alloc (.cells #[x,y] 145)) P:=⟨x,y,Cell2.new' h⟩
theorem Has2.alloc{W:World}{P:Nat}(h:Has2 W P)(o:Obj):Has2 (W.alloc o) P:=by obtain⟨x,y,h⟩:=h;exact⟨x,y,h.alloc o⟩
theorem Has2.drew{W:World}{P:Nat}(h:Has2 W P):Has2 W.drew P:=h
theorem Has2.below{W W':World}{P:Nat}(h:Has2 W P)(hb:Below W.heap.size W W'):Has2 W' P:=by obtain⟨x,y,h⟩:=h;exact⟨x,y,h.below hb⟩
theorem Has2.other{W:World}{P:Nat}(h:Has2 W P){a:Addr}(hne:P≠a.block)(v:Value):Has2 (W.setCell a v) P:=by obtain⟨x,y,h⟩:=h;exact⟨x,y,h.other hne v⟩
theorem Cell2.set01{W:World}{P:Nat}(h:Has2 W P)(u v:Value):Cell2 ((W.setCell ⟨P,0,none⟩ u).setCell ⟨P,1,none⟩ v) P u v:=by obtain⟨x,y,h⟩:=h;exact(h.set0 u).set1 v
theorem lt3{a b:Nat}(h:a+3<b):a<b∧a+1<b∧b≠a∧b≠a+1∧b+1≠a:=by omega
structure KeepsAll(W W':World):Prop where
 size:W.heap.size≤W'.heap.size
 same:∀(k:Nat) (o:Obj),W.heap[k]? =some o→(o.isCells=true∨o.isWalk=true)→W'.heap[k]? =some o
theorem KeepsAll.refl(W:World):KeepsAll W W:=⟨Nat.le_refl _,fun _ _ h _=>h⟩
theorem KeepsAll.trans{A B C:World}(h:KeepsAll A B)(k:KeepsAll B C):KeepsAll A C:=
 ⟨Nat.le_trans h.size k.size,fun i o hi ho=>k.same i o (h.same i o hi ho) ho⟩
theorem KeepsAll.book{w:World}(W:World)(l:Nat)(o o':Obj)(_:w.heap.size≤l)(h:W.heap[l]? =some o)(hc:o.isCells=false)(hw:o.isWalk=false):KeepsAll W (W.putObj l o'):=
 ⟨by simp,fun k o'' hk ho=>by
   by_cases e:k=l
   ·subst e;rw[h]at hk;cases hk;rw[hc,hw]at ho;simp at ho
   ·exact(World.putObj_heap_other e).trans hk⟩
theorem KeepsAll.of_below{W W':World}(h:Below W.heap.size W W'):KeepsAll W W':=
 ⟨h.size,fun k _ hk _=>(h.block k (Array.getElem?_eq_some_iff.1 hk).1).trans hk⟩
theorem KeepsAll.cell{W W':World}(h:KeepsAll W W'){a:Addr}{v:Value}(hv:W.cell? a=some v):W'.cell? a=some v:=by
 have hv':=hv;unfold World.cell? at hv;cases ho:W.heap[a.block]? with
 |none=>simp[ho]at hv
 |some o=>
  have hc:o.isCells=true:=by cases o<;>simp_all[Obj.isCells]
  have:=h.same _ _ ho (.inl hc);exact(World.cell?_of_block (this.trans ho.symm)).trans hv'
theorem KeepsAll.map{W W':World}(h:KeepsAll W W'){b n:Nat}{m:Int→Option Int}(hm:MapIs W b n m):MapIs W' b n m:=by
 have hm':=hm;obtain⟨D,⟨es,clock,hb,F,hs,hD⟩,r⟩:=hm;exact hm'.of_block ((h.same b _ hb (.inr rfl)).trans hb.symm)
theorem grown_of_below{W W':World}(h:Below W.heap.size W W'):W.grownBy W' none:=⟨h.os,h.tape,h.output,h.size,fun k hk _=>h.block k hk⟩
end Go.Proofs.YtallmkehpfaaeaaGreatDoor
