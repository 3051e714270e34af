import Derived.Test.YtbdagpckhfcneaaGreatDoorZ25o
set_option maxRecDepth 100000
set_option maxHeartbeats 16000000
namespace Go.Proofs.YtbdagpckhfcneaaGreatDoor
open Go Go.RowKit Go.Deep
section
variable {P:Program}{ops:Array Oper}{Q:Exit->Act->World->Prop}{w:World}
def Jl(ev:Operand->Value):Op->Option Value
 | .move x=>some (ev x)
 | .assign x=>some (ev x)
 | .pick c x y=>match ev c with
  | .bool true=>some (ev x)
  | .bool false=>some (ev y)
  |_=>none
 |_=>none
theorem Rj{a:Act}{o:Oper}{v:Value}(h:Jl a.eval o.op=some v):(execOp a.eval o).run P w= .ok (.value v) w:=by
 cases o with
 |mk dst op type pos after guard=>
  cases op with
  |move x=>cases h;rfl
  |assign x=>cases h;rfl
  |pick c x y=>
   simp only[Jl]at h;generalize hc:a.eval c=vc at h;cases vc with
   |bool b=>
    cases b with
    |true=>cases h;simp only[execOp];rw[hc];rfl
    |false=>cases h;simp only[execOp];rw[hc];rfl
   |_=>simp at h
  |_=>simp[Jl]at h
def carry1(ops:Array Oper)(a:Act)(i:Nat):Option Act:=match ops[i]? with
 |none=>none
 |some o=>match Region.wanted o (yielded ops a.tmps)with
  |true=>match Jl a.eval o.op with
   |some v=>some (a.put o.dst v)
   |none=>none
  |false=>match idle ops a.tmps i with
   |true=>some a
   |false=>none
def carry(ops:Array Oper):Nat->Nat->Act->Option Act
 |0,_,a=>some a
 |m+1,i,a=>match carry1 ops a i with
  |some a'=>carry ops m (i+1) a'
  |none=>none
theorem Bt.carry1{i:Nat}{a a':Act}(h:carry1 ops a i=some a')(hr:Bt P ops Q (i+1) a' w):Bt P ops Q i a w:=by
 unfold YtbdagpckhfcneaaGreatDoor.carry1 at h;cases ho:ops[i]? with
 |none=>rw[ho]at h;simp at h
 |some o=>
  rw[ho]at h;dsimp only at h;cases hw:Region.wanted o (yielded ops a.tmps)with
  |true=>
   rw[hw]at h;dsimp only at h;cases hc:Jl a.eval o.op with
   |none=>rw[hc]at h;simp at h
   |some v=>
    rw[hc]at h;dsimp only at h;cases h;refine Bt.step ho fun K' hK=>?_;rw[if_pos hw];unfold Oper.wp;rw[Rj hc];simp only[Oper.upon];exact hK.out _ _ hr
  |false=>
   rw[hw]at h;dsimp only at h;cases hi:idle ops a.tmps i with
   |false=>rw[hi]at h;simp at h
   |true=>
    rw[hi]at h;dsimp only at h;cases h;exact Bt.pass 1 (i:=i) (j:=i+1) rfl (by simp[hi]) hr
theorem Bt.carry(m:Nat):∀{i j:Nat}{a a':Act},i+m=j->carry ops m i a=some a'->Bt P ops Q j a' w->Bt P ops Q i a w:=by
 induction m with
 |zero=>intro i j a a' hj h hr;cases h;have e:i=j:=by omega
        rw[e];exact hr
 |succ m ih=>
  intro i j a a' hj h hr;unfold YtbdagpckhfcneaaGreatDoor.carry at h;cases hc:YtbdagpckhfcneaaGreatDoor.carry1 ops a i with
  |none=>rw[hc]at h;simp at h
  |some a1=>
   rw[hc]at h;dsimp only at h;exact Bt.carry1 hc (ih (i:=i+1) (by omega) h hr)
theorem Ol{i:Nat}{a a':Act}(h:carry1 ops a i=some a'):a'.defers=a.defers:=by
 unfold YtbdagpckhfcneaaGreatDoor.carry1 at h;cases ho:ops[i]? with
 |none=>rw[ho]at h;simp at h
 |some o=>
  rw[ho]at h;dsimp only at h;cases hw:Region.wanted o (yielded ops a.tmps)with
  |true=>
   rw[hw]at h;dsimp only at h;cases hc:Jl a.eval o.op with
   |none=>rw[hc]at h;simp at h
   |some v=>
    rw[hc]at h;dsimp only at h;cases h;unfold Act.put;cases o.dst<;>rfl
  |false=>
   rw[hw]at h;dsimp only at h;cases hi:idle ops a.tmps i with
   |false=>rw[hi]at h;simp at h
   |true=>
    rw[hi]at h;dsimp only at h;cases h;rfl
theorem Qi(m:Nat):∀{i:Nat}{a a':Act},carry ops m i a=some a'->a'.defers=a.defers:=by
 induction m with
 |zero=>intro i a a' h;cases h;rfl
 |succ m ih=>
  intro i a a' h;unfold YtbdagpckhfcneaaGreatDoor.carry at h;cases hc:YtbdagpckhfcneaaGreatDoor.carry1 ops a i with
  |none=>rw[hc]at h;simp at h
  |some a1=>
   rw[hc]at h;dsimp only at h;exact(ih h).trans (Ol hc)
def QV(t:Nat):Option Act->Bool
 |some a=>match a.tmps[t]? with
  |some (.bool b)=> !b
  |_=>false
 |none=>false
theorem Bt.falls(t m:Nat){i:Nat}{a:Act}(hm:i+m=ops.size)(h:QV t (YtbdagpckhfcneaaGreatDoor.carry ops m i a)=true)
 (hr:∀T:Array Value,T[t]? =some (.bool false)->Q .normal ⟨T,a.defers⟩ w):Bt P ops Q i a w:=by
 cases hc:YtbdagpckhfcneaaGreatDoor.carry ops m i a with
 |none=>rw[hc]at h;simp[QV]at h
 |some a'=>
  rw[hc]at h;have hd:=Qi m hc;refine Bt.carry m hm hc (Bt.done nr ?_);have hT:a'.tmps[t]? =some (.bool false):=by
   unfold QV at h;dsimp only at h;split at h
   ·rename_i b hb;cases b with
    |true=>simp at h
    |false=>exact hb
   ·simp at h
  have:=hr a'.tmps hT;rw[<-hd]at this;exact this
theorem DD{T:Array Value}{D:List Deferred}{t:Nat}{x:Bool}(hT:T[t]? =some (.bool false))(hx:x=false):Ending.returned (({tmps:=T,defers:=D}:Act).tmps.getD t undef)=Ending.returned (.bool x):=by
 subst hx;simp[Array.getD_eq_getD_getElem?,hT]
end
open Go.Proofs.Tryz
section
variable {P:Program}{ops:Array Oper}{Q:Exit->Act->World->Prop}{a:Act}{w:World}
theorem Bt.tk(i d:Nat){o:Oper}(v:Value)(h:Bt P ops Q (i+1) (a.put (some d) v) w)(ho:ops[i]? =some o:=by rfl)(hd:o.dst=some d:=by rfl)
 (hw:Region.wanted o (yielded ops a.tmps)=true:=by kernel_rfl)(hv:(execOp a.eval o).run P w= .ok (.value v) w:=by go_simp):Bt P ops Q i a w:=Bt.take v ho hd hw hv h
def PV:List Nat->List Value->Act->Act
 |d::ds,x::xs,a=>PV ds xs (a.put (some d) x)
 |_,_,a=>a
theorem Bt.opt(ds:List Nat)(R:List Value->World->Prop)(j:Nat){i:Nat}(h1:∀xs w',R xs w'->Bt P ops Q j (PV ds xs a) w')
 (h2:(∀xs w',R xs w'->Bt P ops Q j (PV ds xs a) w')->Bt P ops Q i a w):Bt P ops Q i a w:=h2 h1
end
def XK:Prop:=∀(th kind id to' cat:Int) (d:ByteArray) (bl:Int) (al:Option Addr) (nl kl:Nat) (fl gl:Nat->Int) (bc:Int) (ac:Option Addr) (nc kc:Nat) (fc gc:Nat->Int) (w:World) (_:d.size<=maxLen) (_:nl<=maxLen) (_:nc<=maxLen) (_:AW w al nl fl gl) (_:AW w ac nc fc gc),
 Calls prog 13 #[.agg #[th,.int .i64 kind,.int .i64 id,.int .i64 to',cat,.string d,.int .i64 bl,.slice al nl kl,.int .i64 bc,.slice ac nc kc]] w fun e w'=>e= .returned (.bool (Ho th kind id to' cat d bl nl fl gl bc nc fc gc))/\Below w w w'
theorem QF:XK:=by
 intro th kind id to' cat d bl al nl kl fl gl bc ac nc kc fc gc w hd hnl hnc hcl hcc;have n1:Na #[th,.int .i64 kind,.int .i64 id,.int .i64 to',cat,.string d,.int .i64 bl,.slice al nl kl,.int .i64 bc,.slice ac nc kc]:=⟨⟩;have L0:=Bd w (.cells n1 32);have A0:=Ag.new w (.cells n1 32);unfold Ho;have HU:=Uf kind;generalize ZN kind=ok at *;generalize aJ kind=ui at *;generalize aK kind=ut at *;generalize RN kind=uc at *;generalize Pt kind=ud at *;generalize KM kind=ul at *;generalize IY kind=ue at *;go_enter func13,ntmps13
 go_wp2_with fail
 refine(HU _).mono ?_;rintro e w1 ⟨rfl,hb1⟩;have n2:No (.cells #[.bool ui,.bool ut,.bool uc,.bool ud,.bool ul,.bool ue] 78):=⟨⟩;have K1:=(Below.refl _ w1).alloc nr n2;have A:=(A0.below hb1).below K1;have U:=Ag.new w1 n2;have L:Below w w (w1.alloc n2):=L0.trans ((hb1.mono (by simp)).trans (K1.mono (by have:=hb1.size;simp at this;omega)));clear hb1 K1 A0 L0;obtain⟨c0,c1,c2,c3,c4,c5,c6,c7,c8,c9⟩:=A.jE;go_upto_region 2 with fail
 clear c0 c1 c2 c3 c4 c5 c6 c7 c8 c9;generalize w1.alloc n2=W1 at *;generalize w1.heap.size=PU at *;refine Bt.region ?_;cases ok
 ·refine Bt.falls 2 74 rfl (by kernel_rfl) (fun T hT=>?_);go_wp2;go_ret;exact⟨DD hT (by simp[Fa]),L⟩
 by_cases s1:1<=th;rotate_left
 ·have t2:DZ th 1 9=false:=by simp[DZ,s1]
  refine Bt.tk 0 11 (.bool true) ?_;simp only[ap,List.set];refine Bt.tk 1 12 (.bool true) ?_;simp only[ap,List.set];refine Bt.tk 2 13 (.pointer (w)) ?_;simp only[ap,List.set];refine Bt.tk 3 14 (.int .i64 th) ?_ (hv:=by obtain⟨c0,c1,c2,c3,c4,c5,c6,c7,c8,c9⟩:=A.jE;obtain⟨v0,v1,v2,v3,v4,v5⟩:=U.six;go_simp);simp only[ap,List.set];refine Bt.tk 4 15 (.bool false) ?_;simp only[ap,List.set];refine Bt.falls 2 69 rfl (by kernel_rfl) (fun T hT=>?_);go_wp2;go_ret;exact⟨DD hT (by simp[Fa,t2]),L⟩
 by_cases s2:th<=9;rotate_left
 ·have t2:DZ th 1 9=false:=by simp[DZ,s2]
  refine Bt.tk 0 11 (.bool true) ?_;simp only[ap,List.set];refine Bt.tk 1 12 (.bool true) ?_;simp only[ap,List.set];have n3:Nv (.pointer (w)):=⟨⟩;refine Bt.tk 2 13 n3 ?_;simp only[ap,List.set];refine Bt.tk 3 14 (.int .i64 th) ?_ (hv:=by obtain⟨c0,c1,c2,c3,c4,c5,c6,c7,c8,c9⟩:=A.jE;obtain⟨v0,v1,v2,v3,v4,v5⟩:=U.six;go_simp);simp only[ap,List.set];refine Bt.tk 4 15 (.bool true) ?_;simp only[ap,List.set];refine Bt.tk 5 16 (.bool true) ?_;simp only[ap,List.set];refine Bt.tk 6 17 (.bool true) ?_;simp only[ap,List.set];refine Bt.tk 7 18 n3 ?_;simp only[ap,List.set];refine Bt.tk 8 19 (.int .i64 th) ?_ (hv:=by obtain⟨c0,c1,c2,c3,c4,c5,c6,c7,c8,c9⟩:=A.jE;obtain⟨v0,v1,v2,v3,v4,v5⟩:=U.six;go_simp);simp only[ap,List.set];refine Bt.tk 9 20 (.bool false) ?_;simp only[ap,List.set];refine Bt.falls 2 64 rfl (by kernel_rfl) (fun T hT=>?_);go_wp2;go_ret;exact⟨DD hT (by simp[Fa,t2]),L⟩
 have t2:DZ th 1 9=true:=Ej.2 ⟨s1,s2⟩;refine Bt.tk 0 11 (.bool true) ?_;simp only[ap,List.set];refine Bt.tk 1 12 (.bool true) ?_;simp only[ap,List.set];have n4:Nv (.pointer (w)):=⟨⟩;refine Bt.tk 2 13 n4 ?_;simp only[ap,List.set];refine Bt.tk 3 14 (.int .i64 th) ?_ (hv:=by obtain⟨c0,c1,c2,c3,c4,c5,c6,c7,c8,c9⟩:=A.jE;obtain⟨v0,v1,v2,v3,v4,v5⟩:=U.six;go_simp);simp only[ap,List.set];refine Bt.tk 4 15 (.bool true) ?_;simp only[ap,List.set];refine Bt.tk 5 16 (.bool true) ?_;simp only[ap,List.set];refine Bt.tk 6 17 (.bool true) ?_;simp only[ap,List.set];refine Bt.tk 7 18 n4 ?_;simp only[ap,List.set];refine Bt.tk 8 19 (.int .i64 th) ?_ (hv:=by obtain⟨c0,c1,c2,c3,c4,c5,c6,c7,c8,c9⟩:=A.jE;obtain⟨v0,v1,v2,v3,v4,v5⟩:=U.six;go_simp);simp only[ap,List.set];refine Bt.tk 9 20 (.bool true) ?_;simp only[ap,List.set];refine Bt.tk 10 21 (.bool true) ?_;simp only[ap,List.set];refine Bt.tk 11 22 (.bool true) ?_;simp only[ap,List.set];have n5:Nv (.pointer (some ⟨w,6,none⟩)):=⟨⟩;refine Bt.tk 12 23 n5 ?_;simp only[ap,List.set];have n8:Nv (.agg #[.int .i64 bl,.slice al nl kl]):=⟨⟩;refine Bt.tk 13 24 n8 ?_ (hv:=by obtain⟨c0,c1,c2,c3,c4,c5,c6,c7,c8,c9⟩:=A.jE;obtain⟨v0,v1,v2,v3,v4,v5⟩:=U.six;go_simp);simp only[ap,List.set];refine Bt.step rfl (fun K1 hK1=>?_);go_simp;refine(D9 _ _ _ _ fl gl _ hnl (hcl.below L)).mono ?_;rintro e W2 ⟨rfl,hb⟩;replace A:=A.below hb;replace U:=U.below hb;replace L:Below w w W2:=L.trans (hb.mono L.size);clear hb;cases t3:Ba bl nl fl gl
 ·refine hK1 _ _ ?_;clear hK1 K1;refine Bt.falls 2 59 rfl (by kernel_rfl) (fun T hT=>?_);go_wp2;go_ret;exact⟨DD hT (by simp[Fa,t2,t3]),L⟩
 refine hK1 _ _ ?_;clear hK1 K1;try simp only[ap,List.set]
 refine Bt.tk 15 26 (.bool true) ?_;simp only[ap,List.set];refine Bt.tk 16 27 (.bool true) ?_;simp only[ap,List.set];refine Bt.tk 17 28 (.pointer (some ⟨PU,4,none⟩)) ?_;simp only[ap,List.set];refine Bt.tk 18 29 (.bool ul) ?_ (hv:=by obtain⟨c0,c1,c2,c3,c4,c5,c6,c7,c8,c9⟩:=A.jE;obtain⟨v0,v1,v2,v3,v4,v5⟩:=U.six;go_simp);simp only[ap,List.set];refine Bt.tk 19 30 (.bool ul) ?_;simp only[ap,List.set];refine Bt.opt [31,32,33,34] (fun xs W=>(∃x y z,xs=[x,y,z,.bool (ul||Du bl nl)])/\Ag W w (.cells n1 32)/\Ag W PU n2/\Below w w W) 24 ?_ (fun REST=>?_);rotate_left
 ·cases ul
  ·skip;refine Bt.tk 20 31 n5 ?_;simp only[ap,List.set];refine Bt.tk 21 32 n8 ?_ (hv:=by obtain⟨c0,c1,c2,c3,c4,c5,c6,c7,c8,c9⟩:=A.jE;obtain⟨v0,v1,v2,v3,v4,v5⟩:=U.six;go_simp);simp only[ap,List.set];refine Bt.step rfl (fun K1 hK1=>?_);go_simp;refine(JD _ _ _ _ _ hnl).mono ?_;rintro e W2 ⟨rfl,hb⟩;replace A:=A.below hb;replace U:=U.below hb;replace L:Below w w W2:=L.trans (hb.mono L.size);clear hb;refine hK1 _ _ ?_;clear hK1 K1;try simp only[ap,List.set]
   refine Bt.tk 23 34 (.bool (Du bl nl)) ?_;simp only[ap,List.set];exact REST _ _ ⟨⟨_,_,_,rfl⟩,A,U,L⟩
  ·refine Bt.pass (j:=23) 3 rfl (by kernel_rfl) ?_;refine Bt.tk 23 34 (.bool true) ?_;simp only[ap,List.set];exact REST _ _ ⟨⟨undef,undef,undef,rfl⟩,A,U,L⟩
 clear A U L;rintro xs W ⟨⟨x,y,z,rfl⟩,A,U,L⟩;simp only[PV,ap,List.set];cases t4:(ul||Du bl nl)
 ·refine Bt.falls 2 50 rfl (by kernel_rfl) (fun T hT=>?_);go_wp2;go_ret;exact⟨DD hT (by simp[Fa,t2,t3,t4]),L⟩
 refine Bt.tk 24 35 (.bool true) ?_;simp only[ap,List.set];refine Bt.tk 25 36 (.bool true) ?_;simp only[ap,List.set];have n6:Nv (.pointer (some ⟨w,8,none⟩)):=⟨⟩;refine Bt.tk 26 37 n6 ?_;simp only[ap,List.set];have n9:Nv (.agg #[.int .i64 bc,.slice ac nc kc]):=⟨⟩;refine Bt.tk 27 38 n9 ?_ (hv:=by obtain⟨c0,c1,c2,c3,c4,c5,c6,c7,c8,c9⟩:=A.jE;obtain⟨v0,v1,v2,v3,v4,v5⟩:=U.six;go_simp);simp only[ap,List.set];refine Bt.step rfl (fun K1 hK1=>?_);go_simp;refine(D9 _ _ _ _ fc gc _ hnc (hcc.below L)).mono ?_;rintro e W2 ⟨rfl,hb⟩;replace A:=A.below hb;replace U:=U.below hb;replace L:Below w w W2:=L.trans (hb.mono L.size);clear hb;cases t5:Ba bc nc fc gc
 ·refine hK1 _ _ ?_;clear hK1 K1;refine Bt.falls 2 45 rfl (by kernel_rfl) (fun T hT=>?_);go_wp2;go_ret;exact⟨DD hT (by simp[Fa,t2,t3,t4,t5]),L⟩
 refine hK1 _ _ ?_;clear hK1 K1;try simp only[ap,List.set]
 refine Bt.tk 29 40 (.bool true) ?_;simp only[ap,List.set];refine Bt.tk 30 41 (.bool true) ?_;simp only[ap,List.set];refine Bt.tk 31 42 (.pointer (some ⟨PU,5,none⟩)) ?_;simp only[ap,List.set];refine Bt.tk 32 43 (.bool ue) ?_ (hv:=by obtain⟨c0,c1,c2,c3,c4,c5,c6,c7,c8,c9⟩:=A.jE;obtain⟨v0,v1,v2,v3,v4,v5⟩:=U.six;go_simp);simp only[ap,List.set];refine Bt.tk 33 44 (.bool ue) ?_;simp only[ap,List.set];refine Bt.opt [45,46,47,48] (fun xs W=>(∃x y z,xs=[x,y,z,.bool (ue||Du bc nc)])/\Ag W w (.cells n1 32)/\Ag W PU n2/\Below w w W) 38 ?_ (fun REST=>?_);rotate_left
 ·cases ue
  ·skip;refine Bt.tk 34 45 n6 ?_;simp only[ap,List.set];refine Bt.tk 35 46 n9 ?_ (hv:=by obtain⟨c0,c1,c2,c3,c4,c5,c6,c7,c8,c9⟩:=A.jE;obtain⟨v0,v1,v2,v3,v4,v5⟩:=U.six;go_simp);simp only[ap,List.set];refine Bt.step rfl (fun K1 hK1=>?_);go_simp;refine(JD _ _ _ _ _ hnc).mono ?_;rintro e W2 ⟨rfl,hb⟩;replace A:=A.below hb;replace U:=U.below hb;replace L:Below w w W2:=L.trans (hb.mono L.size);clear hb;refine hK1 _ _ ?_;clear hK1 K1;try simp only[ap,List.set]
   refine Bt.tk 37 48 (.bool (Du bc nc)) ?_;simp only[ap,List.set];exact REST _ _ ⟨⟨_,_,_,rfl⟩,A,U,L⟩
  ·refine Bt.pass (j:=37) 3 rfl (by kernel_rfl) ?_;refine Bt.tk 37 48 (.bool true) ?_;simp only[ap,List.set];exact REST _ _ ⟨⟨undef,undef,undef,rfl⟩,A,U,L⟩
 clear A U L;rintro xs W ⟨⟨x,y,z,rfl⟩,A,U,L⟩;simp only[PV,ap,List.set];cases t6:(ue||Du bc nc)
 ·refine Bt.falls 2 36 rfl (by kernel_rfl) (fun T hT=>?_);go_wp2;go_ret;exact⟨DD hT (by simp[Fa,t2,t3,t4,t5,t6]),L⟩
 refine Bt.tk 38 49 (.bool true) ?_;simp only[ap,List.set];refine Bt.tk 39 50 (.bool true) ?_;simp only[ap,List.set];have n7:Nv (.pointer (some ⟨w,5,none⟩)):=⟨⟩;refine Bt.tk 40 51 n7 ?_;simp only[ap,List.set];refine Bt.tk 41 52 (.string d) ?_ (hv:=by obtain⟨c0,c1,c2,c3,c4,c5,c6,c7,c8,c9⟩:=A.jE;obtain⟨v0,v1,v2,v3,v4,v5⟩:=U.six;go_simp);simp only[ap,List.set];refine Bt.step rfl (fun K1 hK1=>?_);go_simp;refine(JK d _ hd).mono ?_;rintro e W2 ⟨rfl,hb⟩;replace A:=A.below hb;replace U:=U.below hb;replace L:Below w w W2:=L.trans (hb.mono L.size);clear hb;cases t7:Bz d 40
 ·refine hK1 _ _ ?_;clear hK1 K1;refine Bt.falls 2 31 rfl (by kernel_rfl) (fun T hT=>?_);go_wp2;go_ret;exact⟨DD hT (by simp[Fa,t2,t3,t4,t5,t6,t7]),L⟩
 refine hK1 _ _ ?_;clear hK1 K1;try simp only[ap,List.set]
 refine Bt.tk 43 54 (.bool true) ?_;simp only[ap,List.set];refine Bt.tk 44 55 (.bool true) ?_;simp only[ap,List.set];refine Bt.tk 45 56 (.pointer (some ⟨PU,3,none⟩)) ?_;simp only[ap,List.set];refine Bt.tk 46 57 (.bool ud) ?_ (hv:=by obtain⟨c0,c1,c2,c3,c4,c5,c6,c7,c8,c9⟩:=A.jE;obtain⟨v0,v1,v2,v3,v4,v5⟩:=U.six;go_simp);simp only[ap,List.set];refine Bt.tk 47 58 (.bool ud) ?_;simp only[ap,List.set];refine Bt.opt [59,60,61,62] (fun xs W=>(∃x y z,xs=[x,y,z,.bool (ud||JE d)])/\Ag W w (.cells n1 32)/\Ag W PU n2/\Below w w W) 52 ?_ (fun REST=>?_);rotate_left
 ·cases ud
  ·skip;refine Bt.tk 48 59 n7 ?_;simp only[ap,List.set];refine Bt.tk 49 60 (.string d) ?_ (hv:=by obtain⟨c0,c1,c2,c3,c4,c5,c6,c7,c8,c9⟩:=A.jE;obtain⟨v0,v1,v2,v3,v4,v5⟩:=U.six;go_simp);simp only[ap,List.set];refine Bt.tk 50 61 (.bool (JE d)) ?_ (hv:=by unfold JE;go_simp);simp only[ap,List.set];refine Bt.tk 51 62 (.bool (JE d)) ?_;simp only[ap,List.set];exact REST _ _ ⟨⟨_,_,_,rfl⟩,A,U,L⟩
  ·refine Bt.pass (j:=51) 3 rfl (by kernel_rfl) ?_;refine Bt.tk 51 62 (.bool true) ?_;simp only[ap,List.set];exact REST _ _ ⟨⟨undef,undef,undef,rfl⟩,A,U,L⟩
 clear A U L;rintro xs W ⟨⟨x,y,z,rfl⟩,A,U,L⟩;simp only[PV,ap,List.set];cases t8:(ud||JE d)
 ·refine Bt.falls 2 22 rfl (by kernel_rfl) (fun T hT=>?_);go_wp2;go_ret;exact⟨DD hT (by simp[Fa,t2,t3,t4,t5,t6,t7,t8]),L⟩
 refine Bt.tk 52 63 (.bool true) ?_;simp only[ap,List.set];refine Bt.tk 53 64 (.bool true) ?_;simp only[ap,List.set];refine Bt.tk 54 65 (.pointer (some ⟨w,2,none⟩)) ?_;simp only[ap,List.set];refine Bt.tk 55 66 (.int .i64 id) ?_ (hv:=by obtain⟨c0,c1,c2,c3,c4,c5,c6,c7,c8,c9⟩:=A.jE;obtain⟨v0,v1,v2,v3,v4,v5⟩:=U.six;go_simp);simp only[ap,List.set];refine Bt.tk 56 67 (.pointer PU) ?_;simp only[ap,List.set];refine Bt.tk 57 68 (.bool ui) ?_ (hv:=by obtain⟨c0,c1,c2,c3,c4,c5,c6,c7,c8,c9⟩:=A.jE;obtain⟨v0,v1,v2,v3,v4,v5⟩:=U.six;go_simp);simp only[ap,List.set];refine Bt.step rfl (fun K1 hK1=>?_);go_simp;refine(Ka _ _ _).mono ?_;rintro e W2 ⟨rfl,hb⟩;subst hb;cases t9:Mm id ui
 ·refine hK1 _ _ ?_;clear hK1 K1;refine Bt.falls 2 15 rfl (by kernel_rfl) (fun T hT=>?_);go_wp2;go_ret;exact⟨DD hT (by simp[Fa,t2,t3,t4,t5,t6,t7,t8,t9]),L⟩
 refine hK1 _ _ ?_;clear hK1 K1;try simp only[ap,List.set]
 refine Bt.tk 59 70 (.bool true) ?_;simp only[ap,List.set];refine Bt.tk 60 71 (.bool true) ?_;simp only[ap,List.set];refine Bt.tk 61 72 (.pointer (some ⟨w,3,none⟩)) ?_;simp only[ap,List.set];refine Bt.tk 62 73 (.int .i64 to') ?_ (hv:=by obtain⟨c0,c1,c2,c3,c4,c5,c6,c7,c8,c9⟩:=A.jE;obtain⟨v0,v1,v2,v3,v4,v5⟩:=U.six;go_simp);simp only[ap,List.set];refine Bt.tk 63 74 (.pointer (some ⟨PU,1,none⟩)) ?_;simp only[ap,List.set];refine Bt.tk 64 75 (.bool ut) ?_ (hv:=by obtain⟨c0,c1,c2,c3,c4,c5,c6,c7,c8,c9⟩:=A.jE;obtain⟨v0,v1,v2,v3,v4,v5⟩:=U.six;go_simp);simp only[ap,List.set];refine Bt.step rfl (fun K1 hK1=>?_);go_simp;refine(Ka _ _ _).mono ?_;rintro e W2 ⟨rfl,hb⟩;subst hb;cases t10:Mm to' ut
 ·refine hK1 _ _ ?_;clear hK1 K1;refine Bt.falls 2 8 rfl (by kernel_rfl) (fun T hT=>?_);go_wp2;go_ret;exact⟨DD hT (by simp[Fa,t2,t3,t4,t5,t6,t7,t8,t9,t10]),L⟩
 refine hK1 _ _ ?_;clear hK1 K1;try simp only[ap,List.set]
 refine Bt.tk 66 77 (.bool true) ?_;simp only[ap,List.set];refine Bt.tk 67 78 (.bool true) ?_;simp only[ap,List.set];refine Bt.tk 68 79 (.agg n1) ?_ (hv:=by obtain⟨c0,c1,c2,c3,c4,c5,c6,c7,c8,c9⟩:=A.jE;obtain⟨v0,v1,v2,v3,v4,v5⟩:=U.six;go_simp);simp only[ap,List.set];refine Bt.tk 69 80 (.pointer (some ⟨PU,2,none⟩)) ?_;simp only[ap,List.set];refine Bt.tk 70 81 (.bool uc) ?_ (hv:=by obtain⟨c0,c1,c2,c3,c4,c5,c6,c7,c8,c9⟩:=A.jE;obtain⟨v0,v1,v2,v3,v4,v5⟩:=U.six;go_simp);simp only[ap,List.set];refine Bt.step rfl (fun K1 hK1=>?_);go_simp;refine(WC _ _ _ _ _ _ _ _ _ _ _ _ _ _ _ _).mono ?_;rintro e W2 ⟨rfl,hb⟩;replace A:=A.below hb;replace U:=U.below hb;replace L:Below w w W2:=L.trans (hb.mono L.size);clear hb;refine hK1 _ _ ?_;clear hK1 K1;try simp only[ap,List.set]
 refine Bt.tk 72 83 (.bool (Oa kind cat uc)) ?_;simp only[ap,List.set];refine Bt.tk 73 2 (.bool (Oa kind cat uc)) ?_;simp only[ap,List.set];refine Bt.done (Nat.le_of_eq (by rfl)) ?_;go_wp2;go_ret;exact⟨Ah (by simp[Fa,t2,t3,t4,t5,t6,t7,t8,t9,t10]),L⟩
open Go.Maps
theorem Ym(t:Ae)(x:Int)(P:Nat)(w:World)(hP:w.cell? ⟨P,0,none⟩=some (.int .i64 x))(hl:P<w.heap.size):
 Calls prog 87 #[.agg t,.pointer P] w fun e w'=>e= .returned (.bool (t.id==x))/\Below w w w':=by
 have b0:=Bd w (.cells t 42);have h1:=(b0.cell (p:=⟨P,0,none⟩) hl).trans hP;go_enter func87,ntmps87
 go_wp2;go_ret;exact⟨rfl,b0⟩
theorem OQ(a:Option Addr)(n cap:Nat)(T:Nat->Ae)(x:Int)(P:Nat)(w:World)(hn:n<=maxLen)(hT:Io w a n T)(hP:w.cell? ⟨P,0,none⟩=some (.int .i64 x))(hl:P<w.heap.size):
 Calls prog 86 #[.slice a n cap,.func (.func 87) #[] #[.pointer P]] w fun e w'=>e= .returned (.int .i64 (FV (Bi (fun i=>(T i).id) n x)))/\Below w w w':=by
 unfold maxLen at hn;have HT:=hid hT;clear hT;go_enter func86,ntmps86
 go_wp2;go_loopw [8] (fun i wr=>∃q:Nat,q<=n/\i= .int .i64 q/\Hid (∀j,j<q->(T j).id≠x)/\Below w w wr) (fun i _=>n-(intOf i).toNat)
 case atStart=>exact⟨0,Nat.zero_le _,rfl,hid (fun j hj=>by omega),Below.refl _ _⟩
 case round=>
  obtain⟨q,hq,rfl,HA,hB⟩:=hrel;by_cases hlt:q<n
  ·obtain⟨b,off,rfl,_,hcc⟩:=HT.out.below hB (by omega);obtain⟨⟨q0,q1,q2,q3,q4,q5,q6⟩,ht⟩:=hcc q hlt;simp only[Aq.val,AI.val]at q2 q4 q5;have i1:(q:Int)<(n:Int):=(by omega);have hp:=(hB.cell (p:=⟨P,0,none⟩) hl).trans hP;have C1:=hid (Ym (T q) x P wr hp (Nat.lt_of_lt_of_le hl hB.size));clear hcc ht;by_cases e:(T q).id=x
   ·have HF:=hid (G5 (ids:=fun i=>(T i).id) hlt e HA);have e':((T q).id==x)=true:=(by simpa using e);rw[e']at C1;clear e HA e';go_wp2_with(go_at_call 87;refine C1.out.mono ?_;rintro e w1 ⟨rfl,hb1⟩;have B1:=Af hB hb1)
    go_ret;exact⟨E7 (by rw[HF.out];rfl),B1⟩
   ·have e':((T q).id==x)=false:=(by simpa using e);have HA2:Hid (∀j,j<q+1->(T j).id≠x):=hid (fun j hj=>by
     by_cases ej:j=q
     ·subst ej;exact e
     ·exact HA.out j (by omega))
    rw[e']at C1;clear e HA e';go_wp2_with(go_at_call 87;refine C1.out.mono ?_;rintro e w1 ⟨rfl,hb1⟩;have B1:=Af hB hb1)
    exact⟨⟨q+1,by omega,by go_num,HA2,B1⟩,by simp[intOf];omega⟩
  ·have i1:¬(q:Int)<(n:Int):=(by omega);have HF:=hid (JV (ids:=fun i=>(T i).id) (n:=n) (x:=x) (fun j hj=>HA j (by omega)));clear HA;go_wp2;go_ret;exact⟨E7 (by rw[HF.out];rfl),hB⟩
theorem Ir(a:Option Addr)(n cap:Nat)(T:Nat->Ae)(x:Int)(w:World)(hn:n<=maxLen)(hT:Io w a n T):
 Calls prog 46 #[.slice a n cap,.int .i64 x] w fun e w'=>e= .returned (.int .i64 (FV (Bi (fun i=>(T i).id) n x)))/\Below w w w':=by
 have b0:Below w w (w.alloc (.cells #[.int .i64 x] 2)):=Bd w _;have A0:=Ag.new w (.cells #[.int .i64 x] 2);have C1:=hid (OQ a n cap T x w _ hn (hT.below b0) (A0.c0 0 rfl) A0.lt);clear hT;go_enter func46,ntmps46
 go_wp2_with(go_at_call 86;refine C1.out.mono ?_;rintro e w1 ⟨rfl,hb1⟩;have B1:=Af b0 hb1)
 go_ret;exact⟨rfl,B1⟩
end Go.Proofs.YtbdagpckhfcneaaGreatDoor
