import Derived.Test.YteoihknaljgocaaGreatDoorZ25m
set_option maxRecDepth 100000
set_option maxHeartbeats 16000000
namespace Go.Proofs.YteoihknaljgocaaGreatDoor
open Go Go.RowKit Go.Deep
section
variable {P:Program}{ops:Array Oper}{Q:Exit->Act->World->Prop}{w:World}
def JF(ev:Operand->Value):Op->Option Value
 | .move x=>some (ev x)
 | .assign x=>some (ev x)
 | .pick c x y=>match ev c with
  | .bool true=>some (ev x)
  | .bool false=>some (ev y)
  |_=>none
 |_=>none
theorem SJ{a:Act}{o:Oper}{v:Value}(h:JF a.eval o.op=some v):(execOp a.eval o).run P w= .ok (.value v) w:=by
 cases o with
 |mk dst op type pos after guard=>
  cases op with
  |move x=>cases h;rfl
  |assign x=>cases h;rfl
  |pick c x y=>
   simp only[JF]at h;generalize hc:a.eval c=vc at h;cases vc with
   |bool b=>
    cases b with
    |true=>cases h;simp only[execOp];rw[hc];rfl
    |false=>cases h;simp only[execOp];rw[hc];rfl
   |_=>simp at h
  |_=>simp[JF]at h
def carry1(ops:Array Oper)(a:Act)(i:Nat):Option Act:=match ops[i]? with
 |none=>none
 |some o=>match Region.wanted o (yielded ops a.tmps)with
  |true=>match JF a.eval o.op with
   |some v=>some (a.put o.dst v)
   |none=>none
  |false=>match idle ops a.tmps i with
   |true=>some a
   |false=>none
def carry(ops:Array Oper):Nat->Nat->Act->Option Act
 |0,_,a=>some a
 |m+1,i,a=>match carry1 ops a i with
  |some a'=>carry ops m (i+1) a'
  |none=>none
theorem Ba.carry1{i:Nat}{a a':Act}(h:carry1 ops a i=some a')(hr:Ba P ops Q (i+1) a' w):Ba P ops Q i a w:=by
 unfold YteoihknaljgocaaGreatDoor.carry1 at h;cases ho:ops[i]? with
 |none=>rw[ho]at h;simp at h
 |some o=>
  rw[ho]at h;dsimp only at h;cases hw:Region.wanted o (yielded ops a.tmps)with
  |true=>
   rw[hw]at h;dsimp only at h;cases hc:JF a.eval o.op with
   |none=>rw[hc]at h;simp at h
   |some v=>
    rw[hc]at h;dsimp only at h;cases h;refine Ba.step ho fun K' hK=>?_;rw[if_pos hw];unfold Oper.wp;rw[SJ hc];simp only[Oper.upon];exact hK.out _ _ hr
  |false=>
   rw[hw]at h;dsimp only at h;cases hi:idle ops a.tmps i with
   |false=>rw[hi]at h;simp at h
   |true=>
    rw[hi]at h;dsimp only at h;cases h;exact Ba.pass 1 (i:=i) (j:=i+1) rfl (by simp[hi]) hr
theorem Ba.carry(m:Nat):∀{i j:Nat}{a a':Act},i+m=j->carry ops m i a=some a'->Ba P ops Q j a' w->Ba P ops Q i a w:=by
 induction m with
 |zero=>intro i j a a' hj h hr;cases h;have e:i=j:=by omega
        rw[e];exact hr
 |succ m ih=>
  intro i j a a' hj h hr;unfold YteoihknaljgocaaGreatDoor.carry at h;cases hc:YteoihknaljgocaaGreatDoor.carry1 ops a i with
  |none=>rw[hc]at h;simp at h
  |some a1=>
   rw[hc]at h;dsimp only at h;exact Ba.carry1 hc (ih (i:=i+1) (by omega) h hr)
theorem Ow{i:Nat}{a a':Act}(h:carry1 ops a i=some a'):a'.defers=a.defers:=by
 unfold YteoihknaljgocaaGreatDoor.carry1 at h;cases ho:ops[i]? with
 |none=>rw[ho]at h;simp at h
 |some o=>
  rw[ho]at h;dsimp only at h;cases hw:Region.wanted o (yielded ops a.tmps)with
  |true=>
   rw[hw]at h;dsimp only at h;cases hc:JF a.eval o.op with
   |none=>rw[hc]at h;simp at h
   |some v=>
    rw[hc]at h;dsimp only at h;cases h;unfold Act.put;cases o.dst<;>rfl
  |false=>
   rw[hw]at h;dsimp only at h;cases hi:idle ops a.tmps i with
   |false=>rw[hi]at h;simp at h
   |true=>
    rw[hi]at h;dsimp only at h;cases h;rfl
theorem QY(m:Nat):∀{i:Nat}{a a':Act},carry ops m i a=some a'->a'.defers=a.defers:=by
 induction m with
 |zero=>intro i a a' h;cases h;rfl
 |succ m ih=>
  intro i a a' h;unfold YteoihknaljgocaaGreatDoor.carry at h;cases hc:YteoihknaljgocaaGreatDoor.carry1 ops a i with
  |none=>rw[hc]at h;simp at h
  |some a1=>
   rw[hc]at h;dsimp only at h;exact(ih h).trans (Ow hc)
def Qi(t:Nat):Option Act->Bool
 |some a=>match a.tmps[t]? with
  |some (.bool b)=> !b
  |_=>false
 |none=>false
theorem Ba.falls(t m:Nat){i:Nat}{a:Act}(hm:i+m=ops.size)(h:Qi t (YteoihknaljgocaaGreatDoor.carry ops m i a)=true)
 (hr:∀T:Array Value,T[t]? =some (.bool false)->Q .normal ⟨T,a.defers⟩ w):Ba P ops Q i a w:=by
 cases hc:YteoihknaljgocaaGreatDoor.carry ops m i a with
 |none=>rw[hc]at h;simp[Qi]at h
 |some a'=>
  rw[hc]at h;have hd:=QY m hc;refine Ba.carry m hm hc (Ba.done nr ?_);have hT:a'.tmps[t]? =some (.bool false):=by
   unfold Qi at h;dsimp only at h;split at h
   ·rename_i b hb;cases b with
    |true=>simp at h
    |false=>exact hb
   ·simp at h
  have:=hr a'.tmps hT;rw[<-hd]at this;exact this
theorem DG{T:Array Value}{D:List Deferred}{t:Nat}{x:Bool}(hT:T[t]? =some (.bool false))(hx:x=false):Ending.returned (({tmps:=T,defers:=D}:Act).tmps.getD t undef)=Ending.returned (.bool x):=by
 subst hx;simp[Array.getD_eq_getD_getElem?,hT]
end
open Go.Proofs.Tryz
section
variable {P:Program}{ops:Array Oper}{Q:Exit->Act->World->Prop}{a:Act}{w:World}
theorem Ba.tk(i d:Nat){o:Oper}(v:Value)(h:Ba P ops Q (i+1) (a.put (some d) v) w)(ho:ops[i]? =some o:=by rfl)(hd:o.dst=some d:=by rfl)
 (hw:Region.wanted o (yielded ops a.tmps)=true:=by kernel_rfl)(hv:(execOp a.eval o).run P w= .ok (.value v) w:=by go_simp):Ba P ops Q i a w:=Ba.take v ho hd hw hv h
def PH:List Nat->List Value->Act->Act
 |d::ds,x::xs,a=>PH ds xs (a.put (some d) x)
 |_,_,a=>a
theorem Ba.opt(ds:List Nat)(R:List Value->World->Prop)(j:Nat){i:Nat}(h1:∀xs w',R xs w'->Ba P ops Q j (PH ds xs a) w')
 (h2:(∀xs w',R xs w'->Ba P ops Q j (PH ds xs a) w')->Ba P ops Q i a w):Ba P ops Q i a w:=h2 h1
end
def XE:Prop:=∀(th kind id to' cat:Int) (d:ByteArray) (bl:Int) (al:Option Addr) (nl kl:Nat) (fl gl:Nat->Int) (bc:Int) (ac:Option Addr) (nc kc:Nat) (fc gc:Nat->Int) (w:World) (_:d.size<=maxLen) (_:nl<=maxLen) (_:nc<=maxLen) (_:AX w al nl fl gl) (_:AX w ac nc fc gc),
 Calls prog 45 #[.agg #[th,.int .i64 kind,.int .i64 id,.int .i64 to',cat,.string d,.int .i64 bl,.slice al nl kl,.int .i64 bc,.slice ac nc kc]] w fun e w'=>e= .returned (.bool (Hw th kind id to' cat d bl nl fl gl bc nc fc gc))/\Below w w w'
theorem Qj:XE:=by
 intro th kind id to' cat d bl al nl kl fl gl bc ac nc kc fc gc w hd hnl hnc hcl hcc;have n1:Na #[th,.int .i64 kind,.int .i64 id,.int .i64 to',cat,.string d,.int .i64 bl,.slice al nl kl,.int .i64 bc,.slice ac nc kc]:=⟨⟩;have L0:=Bf w (.cells n1 32);have A0:=Ag.new w (.cells n1 32);unfold Hw;have HU:=Ti kind;generalize aM kind=ok at *;generalize aO kind=ui at *;generalize aQ kind=ut at *;generalize Sa kind=uc at *;generalize Qc kind=ud at *;generalize LV kind=ul at *;generalize Jl kind=ue at *;go_enter func45,ntmps45
 go_wp2_with fail
 refine(HU _).mono ?_;rintro e w1 ⟨rfl,hb1⟩;have n2:No (.cells #[.bool ui,.bool ut,.bool uc,.bool ud,.bool ul,.bool ue] 138):=⟨⟩;have K1:=(Below.refl _ w1).alloc nr n2;have A:=(A0.below hb1).below K1;have U:=Ag.new w1 n2;have L:Below w w (w1.alloc n2):=L0.trans ((hb1.mono (by simp)).trans (K1.mono (by have:=hb1.size;simp at this;omega)));clear hb1 K1 A0 L0;obtain⟨c0,c1,c2,c3,c4,c5,c6,c7,c8,c9⟩:=A.jE;go_upto_region 2 with fail
 clear c0 c1 c2 c3 c4 c5 c6 c7 c8 c9;generalize w1.alloc n2=W1 at *;generalize w1.heap.size=PU at *;refine Ba.region ?_;cases ok
 ·refine Ba.falls 2 74 rfl (by kernel_rfl) (fun T hT=>?_);go_wp2;go_ret;exact⟨DG hT (by simp[Fg]),L⟩
 by_cases s1:1<=th;rotate_left
 ·have t2:Ei th 1 9=false:=by simp[Ei,s1]
  refine Ba.tk 0 11 (.bool true) ?_;simp only[ap,List.set];refine Ba.tk 1 12 (.bool true) ?_;simp only[ap,List.set];refine Ba.tk 2 13 (.pointer (w)) ?_;simp only[ap,List.set];refine Ba.tk 3 14 (.int .i64 th) ?_ (hv:=by obtain⟨c0,c1,c2,c3,c4,c5,c6,c7,c8,c9⟩:=A.jE;obtain⟨v0,v1,v2,v3,v4,v5⟩:=U.six;go_simp);simp only[ap,List.set];refine Ba.tk 4 15 (.bool false) ?_;simp only[ap,List.set];refine Ba.falls 2 69 rfl (by kernel_rfl) (fun T hT=>?_);go_wp2;go_ret;exact⟨DG hT (by simp[Fg,t2]),L⟩
 by_cases s2:th<=9;rotate_left
 ·have t2:Ei th 1 9=false:=by simp[Ei,s2]
  refine Ba.tk 0 11 (.bool true) ?_;simp only[ap,List.set];refine Ba.tk 1 12 (.bool true) ?_;simp only[ap,List.set];have n3:Nv (.pointer (w)):=⟨⟩;refine Ba.tk 2 13 n3 ?_;simp only[ap,List.set];refine Ba.tk 3 14 (.int .i64 th) ?_ (hv:=by obtain⟨c0,c1,c2,c3,c4,c5,c6,c7,c8,c9⟩:=A.jE;obtain⟨v0,v1,v2,v3,v4,v5⟩:=U.six;go_simp);simp only[ap,List.set];refine Ba.tk 4 15 (.bool true) ?_;simp only[ap,List.set];refine Ba.tk 5 16 (.bool true) ?_;simp only[ap,List.set];refine Ba.tk 6 17 (.bool true) ?_;simp only[ap,List.set];refine Ba.tk 7 18 n3 ?_;simp only[ap,List.set];refine Ba.tk 8 19 (.int .i64 th) ?_ (hv:=by obtain⟨c0,c1,c2,c3,c4,c5,c6,c7,c8,c9⟩:=A.jE;obtain⟨v0,v1,v2,v3,v4,v5⟩:=U.six;go_simp);simp only[ap,List.set];refine Ba.tk 9 20 (.bool false) ?_;simp only[ap,List.set];refine Ba.falls 2 64 rfl (by kernel_rfl) (fun T hT=>?_);go_wp2;go_ret;exact⟨DG hT (by simp[Fg,t2]),L⟩
 have t2:Ei th 1 9=true:=Ep.2 ⟨s1,s2⟩;refine Ba.tk 0 11 (.bool true) ?_;simp only[ap,List.set];refine Ba.tk 1 12 (.bool true) ?_;simp only[ap,List.set];have n4:Nv (.pointer (w)):=⟨⟩;refine Ba.tk 2 13 n4 ?_;simp only[ap,List.set];refine Ba.tk 3 14 (.int .i64 th) ?_ (hv:=by obtain⟨c0,c1,c2,c3,c4,c5,c6,c7,c8,c9⟩:=A.jE;obtain⟨v0,v1,v2,v3,v4,v5⟩:=U.six;go_simp);simp only[ap,List.set];refine Ba.tk 4 15 (.bool true) ?_;simp only[ap,List.set];refine Ba.tk 5 16 (.bool true) ?_;simp only[ap,List.set];refine Ba.tk 6 17 (.bool true) ?_;simp only[ap,List.set];refine Ba.tk 7 18 n4 ?_;simp only[ap,List.set];refine Ba.tk 8 19 (.int .i64 th) ?_ (hv:=by obtain⟨c0,c1,c2,c3,c4,c5,c6,c7,c8,c9⟩:=A.jE;obtain⟨v0,v1,v2,v3,v4,v5⟩:=U.six;go_simp);simp only[ap,List.set];refine Ba.tk 9 20 (.bool true) ?_;simp only[ap,List.set];refine Ba.tk 10 21 (.bool true) ?_;simp only[ap,List.set];refine Ba.tk 11 22 (.bool true) ?_;simp only[ap,List.set];have n5:Nv (.pointer (some ⟨w,6,none⟩)):=⟨⟩;refine Ba.tk 12 23 n5 ?_;simp only[ap,List.set];have n8:Nv (.agg #[.int .i64 bl,.slice al nl kl]):=⟨⟩;refine Ba.tk 13 24 n8 ?_ (hv:=by obtain⟨c0,c1,c2,c3,c4,c5,c6,c7,c8,c9⟩:=A.jE;obtain⟨v0,v1,v2,v3,v4,v5⟩:=U.six;go_simp);simp only[ap,List.set];refine Ba.step rfl (fun K1 hK1=>?_);go_simp;refine(Ec _ _ _ _ fl gl _ hnl (hcl.below L)).mono ?_;rintro e W2 ⟨rfl,hb⟩;replace A:=A.below hb;replace U:=U.below hb;replace L:Below w w W2:=L.trans (hb.mono L.size);clear hb;cases t3:Bb bl nl fl gl
 ·refine hK1 _ _ ?_;clear hK1 K1;refine Ba.falls 2 59 rfl (by kernel_rfl) (fun T hT=>?_);go_wp2;go_ret;exact⟨DG hT (by simp[Fg,t2,t3]),L⟩
 refine hK1 _ _ ?_;clear hK1 K1;try simp only[ap,List.set]
 refine Ba.tk 15 26 (.bool true) ?_;simp only[ap,List.set];refine Ba.tk 16 27 (.bool true) ?_;simp only[ap,List.set];refine Ba.tk 17 28 (.pointer (some ⟨PU,4,none⟩)) ?_;simp only[ap,List.set];refine Ba.tk 18 29 (.bool ul) ?_ (hv:=by obtain⟨c0,c1,c2,c3,c4,c5,c6,c7,c8,c9⟩:=A.jE;obtain⟨v0,v1,v2,v3,v4,v5⟩:=U.six;go_simp);simp only[ap,List.set];refine Ba.tk 19 30 (.bool ul) ?_;simp only[ap,List.set];refine Ba.opt [31,32,33,34] (fun xs W=>(∃x y z,xs=[x,y,z,.bool (ul||Dz bl nl)])/\Ag W w (.cells n1 32)/\Ag W PU n2/\Below w w W) 24 ?_ (fun REST=>?_);rotate_left
 ·cases ul
  ·skip;refine Ba.tk 20 31 n5 ?_;simp only[ap,List.set];refine Ba.tk 21 32 n8 ?_ (hv:=by obtain⟨c0,c1,c2,c3,c4,c5,c6,c7,c8,c9⟩:=A.jE;obtain⟨v0,v1,v2,v3,v4,v5⟩:=U.six;go_simp);simp only[ap,List.set];refine Ba.step rfl (fun K1 hK1=>?_);go_simp;refine(Ka _ _ _ _ _ hnl).mono ?_;rintro e W2 ⟨rfl,hb⟩;replace A:=A.below hb;replace U:=U.below hb;replace L:Below w w W2:=L.trans (hb.mono L.size);clear hb;refine hK1 _ _ ?_;clear hK1 K1;try simp only[ap,List.set]
   refine Ba.tk 23 34 (.bool (Dz bl nl)) ?_;simp only[ap,List.set];exact REST _ _ ⟨⟨_,_,_,rfl⟩,A,U,L⟩
  ·refine Ba.pass (j:=23) 3 rfl (by kernel_rfl) ?_;refine Ba.tk 23 34 (.bool true) ?_;simp only[ap,List.set];exact REST _ _ ⟨⟨undef,undef,undef,rfl⟩,A,U,L⟩
 clear A U L;rintro xs W ⟨⟨x,y,z,rfl⟩,A,U,L⟩;simp only[PH,ap,List.set];cases t4:(ul||Dz bl nl)
 ·refine Ba.falls 2 50 rfl (by kernel_rfl) (fun T hT=>?_);go_wp2;go_ret;exact⟨DG hT (by simp[Fg,t2,t3,t4]),L⟩
 refine Ba.tk 24 35 (.bool true) ?_;simp only[ap,List.set];refine Ba.tk 25 36 (.bool true) ?_;simp only[ap,List.set];have n6:Nv (.pointer (some ⟨w,8,none⟩)):=⟨⟩;refine Ba.tk 26 37 n6 ?_;simp only[ap,List.set];have n9:Nv (.agg #[.int .i64 bc,.slice ac nc kc]):=⟨⟩;refine Ba.tk 27 38 n9 ?_ (hv:=by obtain⟨c0,c1,c2,c3,c4,c5,c6,c7,c8,c9⟩:=A.jE;obtain⟨v0,v1,v2,v3,v4,v5⟩:=U.six;go_simp);simp only[ap,List.set];refine Ba.step rfl (fun K1 hK1=>?_);go_simp;refine(Ec _ _ _ _ fc gc _ hnc (hcc.below L)).mono ?_;rintro e W2 ⟨rfl,hb⟩;replace A:=A.below hb;replace U:=U.below hb;replace L:Below w w W2:=L.trans (hb.mono L.size);clear hb;cases t5:Bb bc nc fc gc
 ·refine hK1 _ _ ?_;clear hK1 K1;refine Ba.falls 2 45 rfl (by kernel_rfl) (fun T hT=>?_);go_wp2;go_ret;exact⟨DG hT (by simp[Fg,t2,t3,t4,t5]),L⟩
 refine hK1 _ _ ?_;clear hK1 K1;try simp only[ap,List.set]
 refine Ba.tk 29 40 (.bool true) ?_;simp only[ap,List.set];refine Ba.tk 30 41 (.bool true) ?_;simp only[ap,List.set];refine Ba.tk 31 42 (.pointer (some ⟨PU,5,none⟩)) ?_;simp only[ap,List.set];refine Ba.tk 32 43 (.bool ue) ?_ (hv:=by obtain⟨c0,c1,c2,c3,c4,c5,c6,c7,c8,c9⟩:=A.jE;obtain⟨v0,v1,v2,v3,v4,v5⟩:=U.six;go_simp);simp only[ap,List.set];refine Ba.tk 33 44 (.bool ue) ?_;simp only[ap,List.set];refine Ba.opt [45,46,47,48] (fun xs W=>(∃x y z,xs=[x,y,z,.bool (ue||Dz bc nc)])/\Ag W w (.cells n1 32)/\Ag W PU n2/\Below w w W) 38 ?_ (fun REST=>?_);rotate_left
 ·cases ue
  ·skip;refine Ba.tk 34 45 n6 ?_;simp only[ap,List.set];refine Ba.tk 35 46 n9 ?_ (hv:=by obtain⟨c0,c1,c2,c3,c4,c5,c6,c7,c8,c9⟩:=A.jE;obtain⟨v0,v1,v2,v3,v4,v5⟩:=U.six;go_simp);simp only[ap,List.set];refine Ba.step rfl (fun K1 hK1=>?_);go_simp;refine(Ka _ _ _ _ _ hnc).mono ?_;rintro e W2 ⟨rfl,hb⟩;replace A:=A.below hb;replace U:=U.below hb;replace L:Below w w W2:=L.trans (hb.mono L.size);clear hb;refine hK1 _ _ ?_;clear hK1 K1;try simp only[ap,List.set]
   refine Ba.tk 37 48 (.bool (Dz bc nc)) ?_;simp only[ap,List.set];exact REST _ _ ⟨⟨_,_,_,rfl⟩,A,U,L⟩
  ·refine Ba.pass (j:=37) 3 rfl (by kernel_rfl) ?_;refine Ba.tk 37 48 (.bool true) ?_;simp only[ap,List.set];exact REST _ _ ⟨⟨undef,undef,undef,rfl⟩,A,U,L⟩
 clear A U L;rintro xs W ⟨⟨x,y,z,rfl⟩,A,U,L⟩;simp only[PH,ap,List.set];cases t6:(ue||Dz bc nc)
 ·refine Ba.falls 2 36 rfl (by kernel_rfl) (fun T hT=>?_);go_wp2;go_ret;exact⟨DG hT (by simp[Fg,t2,t3,t4,t5,t6]),L⟩
 refine Ba.tk 38 49 (.bool true) ?_;simp only[ap,List.set];refine Ba.tk 39 50 (.bool true) ?_;simp only[ap,List.set];have n7:Nv (.pointer (some ⟨w,5,none⟩)):=⟨⟩;refine Ba.tk 40 51 n7 ?_;simp only[ap,List.set];refine Ba.tk 41 52 (.string d) ?_ (hv:=by obtain⟨c0,c1,c2,c3,c4,c5,c6,c7,c8,c9⟩:=A.jE;obtain⟨v0,v1,v2,v3,v4,v5⟩:=U.six;go_simp);simp only[ap,List.set];refine Ba.step rfl (fun K1 hK1=>?_);go_simp;refine(J5 d _ hd).mono ?_;rintro e W2 ⟨rfl,hb⟩;replace A:=A.below hb;replace U:=U.below hb;replace L:Below w w W2:=L.trans (hb.mono L.size);clear hb;cases t7:BI d 40
 ·refine hK1 _ _ ?_;clear hK1 K1;refine Ba.falls 2 31 rfl (by kernel_rfl) (fun T hT=>?_);go_wp2;go_ret;exact⟨DG hT (by simp[Fg,t2,t3,t4,t5,t6,t7]),L⟩
 refine hK1 _ _ ?_;clear hK1 K1;try simp only[ap,List.set]
 refine Ba.tk 43 54 (.bool true) ?_;simp only[ap,List.set];refine Ba.tk 44 55 (.bool true) ?_;simp only[ap,List.set];refine Ba.tk 45 56 (.pointer (some ⟨PU,3,none⟩)) ?_;simp only[ap,List.set];refine Ba.tk 46 57 (.bool ud) ?_ (hv:=by obtain⟨c0,c1,c2,c3,c4,c5,c6,c7,c8,c9⟩:=A.jE;obtain⟨v0,v1,v2,v3,v4,v5⟩:=U.six;go_simp);simp only[ap,List.set];refine Ba.tk 47 58 (.bool ud) ?_;simp only[ap,List.set];refine Ba.opt [59,60,61,62] (fun xs W=>(∃x y z,xs=[x,y,z,.bool (ud||JZ d)])/\Ag W w (.cells n1 32)/\Ag W PU n2/\Below w w W) 52 ?_ (fun REST=>?_);rotate_left
 ·cases ud
  ·skip;refine Ba.tk 48 59 n7 ?_;simp only[ap,List.set];refine Ba.tk 49 60 (.string d) ?_ (hv:=by obtain⟨c0,c1,c2,c3,c4,c5,c6,c7,c8,c9⟩:=A.jE;obtain⟨v0,v1,v2,v3,v4,v5⟩:=U.six;go_simp);simp only[ap,List.set];refine Ba.tk 50 61 (.bool (JZ d)) ?_ (hv:=by unfold JZ;go_simp);simp only[ap,List.set];refine Ba.tk 51 62 (.bool (JZ d)) ?_;simp only[ap,List.set];exact REST _ _ ⟨⟨_,_,_,rfl⟩,A,U,L⟩
  ·refine Ba.pass (j:=51) 3 rfl (by kernel_rfl) ?_;refine Ba.tk 51 62 (.bool true) ?_;simp only[ap,List.set];exact REST _ _ ⟨⟨undef,undef,undef,rfl⟩,A,U,L⟩
 clear A U L;rintro xs W ⟨⟨x,y,z,rfl⟩,A,U,L⟩;simp only[PH,ap,List.set];cases t8:(ud||JZ d)
 ·refine Ba.falls 2 22 rfl (by kernel_rfl) (fun T hT=>?_);go_wp2;go_ret;exact⟨DG hT (by simp[Fg,t2,t3,t4,t5,t6,t7,t8]),L⟩
 refine Ba.tk 52 63 (.bool true) ?_;simp only[ap,List.set];refine Ba.tk 53 64 (.bool true) ?_;simp only[ap,List.set];refine Ba.tk 54 65 (.pointer (some ⟨w,2,none⟩)) ?_;simp only[ap,List.set];refine Ba.tk 55 66 (.int .i64 id) ?_ (hv:=by obtain⟨c0,c1,c2,c3,c4,c5,c6,c7,c8,c9⟩:=A.jE;obtain⟨v0,v1,v2,v3,v4,v5⟩:=U.six;go_simp);simp only[ap,List.set];refine Ba.tk 56 67 (.pointer PU) ?_;simp only[ap,List.set];refine Ba.tk 57 68 (.bool ui) ?_ (hv:=by obtain⟨c0,c1,c2,c3,c4,c5,c6,c7,c8,c9⟩:=A.jE;obtain⟨v0,v1,v2,v3,v4,v5⟩:=U.six;go_simp);simp only[ap,List.set];refine Ba.step rfl (fun K1 hK1=>?_);go_simp;refine(Kt _ _ _).mono ?_;rintro e W2 ⟨rfl,hb⟩;subst hb;cases t9:Mt id ui
 ·refine hK1 _ _ ?_;clear hK1 K1;refine Ba.falls 2 15 rfl (by kernel_rfl) (fun T hT=>?_);go_wp2;go_ret;exact⟨DG hT (by simp[Fg,t2,t3,t4,t5,t6,t7,t8,t9]),L⟩
 refine hK1 _ _ ?_;clear hK1 K1;try simp only[ap,List.set]
 refine Ba.tk 59 70 (.bool true) ?_;simp only[ap,List.set];refine Ba.tk 60 71 (.bool true) ?_;simp only[ap,List.set];refine Ba.tk 61 72 (.pointer (some ⟨w,3,none⟩)) ?_;simp only[ap,List.set];refine Ba.tk 62 73 (.int .i64 to') ?_ (hv:=by obtain⟨c0,c1,c2,c3,c4,c5,c6,c7,c8,c9⟩:=A.jE;obtain⟨v0,v1,v2,v3,v4,v5⟩:=U.six;go_simp);simp only[ap,List.set];refine Ba.tk 63 74 (.pointer (some ⟨PU,1,none⟩)) ?_;simp only[ap,List.set];refine Ba.tk 64 75 (.bool ut) ?_ (hv:=by obtain⟨c0,c1,c2,c3,c4,c5,c6,c7,c8,c9⟩:=A.jE;obtain⟨v0,v1,v2,v3,v4,v5⟩:=U.six;go_simp);simp only[ap,List.set];refine Ba.step rfl (fun K1 hK1=>?_);go_simp;refine(Kt _ _ _).mono ?_;rintro e W2 ⟨rfl,hb⟩;subst hb;cases t10:Mt to' ut
 ·refine hK1 _ _ ?_;clear hK1 K1;refine Ba.falls 2 8 rfl (by kernel_rfl) (fun T hT=>?_);go_wp2;go_ret;exact⟨DG hT (by simp[Fg,t2,t3,t4,t5,t6,t7,t8,t9,t10]),L⟩
 refine hK1 _ _ ?_;clear hK1 K1;try simp only[ap,List.set]
 refine Ba.tk 66 77 (.bool true) ?_;simp only[ap,List.set];refine Ba.tk 67 78 (.bool true) ?_;simp only[ap,List.set];refine Ba.tk 68 79 (.agg n1) ?_ (hv:=by obtain⟨c0,c1,c2,c3,c4,c5,c6,c7,c8,c9⟩:=A.jE;obtain⟨v0,v1,v2,v3,v4,v5⟩:=U.six;go_simp);simp only[ap,List.set];refine Ba.tk 69 80 (.pointer (some ⟨PU,2,none⟩)) ?_;simp only[ap,List.set];refine Ba.tk 70 81 (.bool uc) ?_ (hv:=by obtain⟨c0,c1,c2,c3,c4,c5,c6,c7,c8,c9⟩:=A.jE;obtain⟨v0,v1,v2,v3,v4,v5⟩:=U.six;go_simp);simp only[ap,List.set];refine Ba.step rfl (fun K1 hK1=>?_);go_simp;refine(Wk _ _ _ _ _ _ _ _ _ _ _ _ _ _ _ _).mono ?_;rintro e W2 ⟨rfl,hb⟩;replace A:=A.below hb;replace U:=U.below hb;replace L:Below w w W2:=L.trans (hb.mono L.size);clear hb;refine hK1 _ _ ?_;clear hK1 K1;try simp only[ap,List.set]
 refine Ba.tk 72 83 (.bool (M8 kind cat uc)) ?_;simp only[ap,List.set];refine Ba.tk 73 2 (.bool (M8 kind cat uc)) ?_;simp only[ap,List.set];refine Ba.done (Nat.le_of_eq (by rfl)) ?_;go_wp2;go_ret;exact⟨Ah (by simp[Fg,t2,t3,t4,t5,t6,t7,t8,t9,t10]),L⟩
open Go.Maps
theorem Xb(t:Ae)(x:Int)(P:Nat)(w:World)(hP:w.cell? ⟨P,0,none⟩=some (.int .i64 x))(hl:P<w.heap.size):
 Calls prog 68 #[.agg t,.pointer P] w fun e w'=>e= .returned (.bool (t.id==x))/\Below w w w':=by
 have b0:=Bf w (.cells t 39);have h1:=(b0.cell (p:=⟨P,0,none⟩) hl).trans hP;go_enter func68,ntmps68
 go_wp2;go_ret;exact⟨rfl,b0⟩
theorem OJ(a:Option Addr)(n cap:Nat)(T:Nat->Ae)(x:Int)(P:Nat)(w:World)(hn:n<=maxLen)(hT:Iv w a n T)(hP:w.cell? ⟨P,0,none⟩=some (.int .i64 x))(hl:P<w.heap.size):
 Calls prog 67 #[.slice a n cap,.func (.func 68) #[] #[.pointer P]] w fun e w'=>e= .returned (.int .i64 (Gf (Bg (fun i=>(T i).id) n x)))/\Below w w w':=by
 unfold maxLen at hn;have HT:=hid hT;clear hT;go_enter func67,ntmps67
 go_wp2;go_loopw [8] (fun i wr=>∃q:Nat,q<=n/\i= .int .i64 q/\Hid (∀j,j<q->(T j).id≠x)/\Below w w wr) (fun i _=>n-(intOf i).toNat)
 case atStart=>exact⟨0,Nat.zero_le _,rfl,hid (fun j hj=>by omega),Below.refl _ _⟩
 case round=>
  obtain⟨q,hq,rfl,HA,hB⟩:=hrel;by_cases hlt:q<n
  ·obtain⟨b,off,rfl,_,hcc⟩:=HT.out.below hB (by omega);obtain⟨⟨q0,q1,q2,q3,q4,q5,q6⟩,ht⟩:=hcc q hlt;simp only[Ar.val,AJ.val]at q2 q4 q5;have i1:(q:Int)<(n:Int):=(by omega);have hp:=(hB.cell (p:=⟨P,0,none⟩) hl).trans hP;have C1:=hid (Xb (T q) x P wr hp (Nat.lt_of_lt_of_le hl hB.size));clear hcc ht;by_cases e:(T q).id=x
   ·have HF:=hid (Hj (ids:=fun i=>(T i).id) hlt e HA);have e':((T q).id==x)=true:=(by simpa using e);rw[e']at C1;clear e HA e';go_wp2_with(go_at_call 68;refine C1.out.mono ?_;rintro e w1 ⟨rfl,hb1⟩;have B1:=Af hB hb1)
    go_ret;exact⟨Ff (by rw[HF.out];rfl),B1⟩
   ·have e':((T q).id==x)=false:=(by simpa using e);have HA2:Hid (∀j,j<q+1->(T j).id≠x):=hid (fun j hj=>by
     by_cases ej:j=q
     ·subst ej;exact e
     ·exact HA.out j (by omega))
    rw[e']at C1;clear e HA e';go_wp2_with(go_at_call 68;refine C1.out.mono ?_;rintro e w1 ⟨rfl,hb1⟩;have B1:=Af hB hb1)
    exact⟨⟨q+1,by omega,by go_num,HA2,B1⟩,by simp[intOf];omega⟩
  ·have i1:¬(q:Int)<(n:Int):=(by omega);have HF:=hid (Jf (ids:=fun i=>(T i).id) (n:=n) (x:=x) (fun j hj=>HA j (by omega)));clear HA;go_wp2;go_ret;exact⟨Ff (by rw[HF.out];rfl),hB⟩
theorem IK(a:Option Addr)(n cap:Nat)(T:Nat->Ae)(x:Int)(w:World)(hn:n<=maxLen)(hT:Iv w a n T):
 Calls prog 25 #[.slice a n cap,.int .i64 x] w fun e w'=>e= .returned (.int .i64 (Gf (Bg (fun i=>(T i).id) n x)))/\Below w w w':=by
 have b0:Below w w (w.alloc (.cells #[.int .i64 x] 2)):=Bf w _;have A0:=Ag.new w (.cells #[.int .i64 x] 2);have C1:=hid (OJ a n cap T x w _ hn (hT.below b0) (A0.c0 0 rfl) A0.lt);clear hT;go_enter func25,ntmps25
 go_wp2_with(go_at_call 67;refine C1.out.mono ?_;rintro e w1 ⟨rfl,hb1⟩;have B1:=Af b0 hb1)
 go_ret;exact⟨rfl,B1⟩
end Go.Proofs.YteoihknaljgocaaGreatDoor
