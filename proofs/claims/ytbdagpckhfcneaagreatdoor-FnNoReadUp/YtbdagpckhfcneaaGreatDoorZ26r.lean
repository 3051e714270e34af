import Derived.Orders
import Derived.Deep.DeepCutAuto
import Derived.Test.YtbdagpckhfcneaaGreatDoorZ11r
set_option maxRecDepth 100000
set_option maxHeartbeats 16000000
namespace Go.Proofs.YtbdagpckhfcneaaGreatDoor
open Go.RowKit Go.Deep Go.Proofs.Tryz
theorem J6(n:Int)(used:Bool)(w:World):
 Calls prog 44 #[.int .i64 n,.bool used] w fun e w'=>e= .returned (.bool (Ls n used))/\w'=w:=by
 cases used with
 |false=>
  go_enter func44,ntmps44
  go_wp2;go_ret;exact⟨Ah (by simp[Ls]),rfl⟩
 |true=>
  go_enter func44,ntmps44
  go_wp2
  ·go_ret;exact⟨Ah (by simp only[Ls,if_true];exact(Kq ‹_›).symm),rfl⟩
  ·go_ret;exact⟨Ah (by simp only[Ls,if_true];exact(M4 ‹_›).symm),rfl⟩
theorem TJ(kind:Int)(w:World):
 Calls prog 40 #[.int .i64 kind] w fun e w'=>e= .returned (.tuple #[.agg #[.bool (Zw kind),.bool (aE kind),.bool (Sz kind),.bool (Po kind),.bool (Ln kind),.bool (Ix kind)],.bool (ar kind)])/\Below w w w':=by
 by_cases h1:kind=1
 ·subst h1;go_enter func40,ntmps40
  go_wp2;refine bodyPost_ret (v:= .tuple #[.agg #[.bool false,.bool false,.bool false,.bool false,.bool false,.bool false],.bool true]) (by simp[results,Tryz.results40,go_sem]) rfl ⟨by rfl,Bd w _⟩
 by_cases h2:kind=2
 ·subst h2;go_enter func40,ntmps40
  go_wp2;refine bodyPost_ret (v:= .tuple #[.agg #[.bool true,.bool false,.bool false,.bool false,.bool true,.bool false],.bool true]) (by simp[results,Tryz.results40,go_sem]) rfl ⟨by rfl,Bd w _⟩
 by_cases h3:kind=3
 ·subst h3;go_enter func40,ntmps40
  go_wp2;refine bodyPost_ret (v:= .tuple #[.agg #[.bool true,.bool false,.bool false,.bool false,.bool true,.bool false],.bool true]) (by simp[results,Tryz.results40,go_sem]) rfl ⟨by rfl,Bd w _⟩
 by_cases h4:kind=4
 ·subst h4;go_enter func40,ntmps40
  go_wp2;refine bodyPost_ret (v:= .tuple #[.agg #[.bool true,.bool false,.bool false,.bool false,.bool true,.bool false],.bool true]) (by simp[results,Tryz.results40,go_sem]) rfl ⟨by rfl,Bd w _⟩
 by_cases h5:kind=5
 ·subst h5;go_enter func40,ntmps40
  go_wp2;refine bodyPost_ret (v:= .tuple #[.agg #[.bool true,.bool false,.bool true,.bool false,.bool true,.bool true],.bool true]) (by simp[results,Tryz.results40,go_sem]) rfl ⟨by rfl,Bd w _⟩
 by_cases h6:kind=6
 ·subst h6;go_enter func40,ntmps40
  go_wp2;refine bodyPost_ret (v:= .tuple #[.agg #[.bool true,.bool false,.bool false,.bool true,.bool false,.bool false],.bool true]) (by simp[results,Tryz.results40,go_sem]) rfl ⟨by rfl,Bd w _⟩
 by_cases h7:kind=7
 ·subst h7;go_enter func40,ntmps40
  go_wp2;refine bodyPost_ret (v:= .tuple #[.agg #[.bool true,.bool false,.bool false,.bool false,.bool false,.bool false],.bool true]) (by simp[results,Tryz.results40,go_sem]) rfl ⟨by rfl,Bd w _⟩
 by_cases h8:kind=8
 ·subst h8;go_enter func40,ntmps40
  go_wp2;refine bodyPost_ret (v:= .tuple #[.agg #[.bool true,.bool true,.bool false,.bool false,.bool false,.bool false],.bool true]) (by simp[results,Tryz.results40,go_sem]) rfl ⟨by rfl,Bd w _⟩
 by_cases h9:kind=9
 ·subst h9;go_enter func40,ntmps40
  go_wp2;refine bodyPost_ret (v:= .tuple #[.agg #[.bool true,.bool false,.bool false,.bool true,.bool false,.bool false],.bool true]) (by simp[results,Tryz.results40,go_sem]) rfl ⟨by rfl,Bd w _⟩
 by_cases h10:kind=10
 ·subst h10;go_enter func40,ntmps40
  go_wp2;refine bodyPost_ret (v:= .tuple #[.agg #[.bool true,.bool false,.bool false,.bool false,.bool false,.bool false],.bool true]) (by simp[results,Tryz.results40,go_sem]) rfl ⟨by rfl,Bd w _⟩
 by_cases h11:kind=11
 ·subst h11;go_enter func40,ntmps40
  go_wp2;refine bodyPost_ret (v:= .tuple #[.agg #[.bool true,.bool false,.bool false,.bool false,.bool false,.bool false],.bool true]) (by simp[results,Tryz.results40,go_sem]) rfl ⟨by rfl,Bd w _⟩
 by_cases h12:kind=12
 ·subst h12;go_enter func40,ntmps40
  go_wp2;refine bodyPost_ret (v:= .tuple #[.agg #[.bool false,.bool false,.bool false,.bool false,.bool true,.bool false],.bool true]) (by simp[results,Tryz.results40,go_sem]) rfl ⟨by rfl,Bd w _⟩
 by_cases h13:kind=13
 ·subst h13;go_enter func40,ntmps40
  go_wp2;refine bodyPost_ret (v:= .tuple #[.agg #[.bool true,.bool false,.bool false,.bool false,.bool false,.bool false],.bool true]) (by simp[results,Tryz.results40,go_sem]) rfl ⟨by rfl,Bd w _⟩
 by_cases h14:kind=14
 ·subst h14;go_enter func40,ntmps40
  go_wp2;refine bodyPost_ret (v:= .tuple #[.agg #[.bool false,.bool false,.bool true,.bool false,.bool false,.bool false],.bool true]) (by simp[results,Tryz.results40,go_sem]) rfl ⟨by rfl,Bd w _⟩
 by_cases h15:kind=15
 ·subst h15;go_enter func40,ntmps40
  go_wp2;refine bodyPost_ret (v:= .tuple #[.agg #[.bool true,.bool false,.bool false,.bool false,.bool false,.bool false],.bool true]) (by simp[results,Tryz.results40,go_sem]) rfl ⟨by rfl,Bd w _⟩
 have g1:(kind==1)=false:=by simpa using h1
 have g2:(kind==2)=false:=by simpa using h2
 have g3:(kind==3)=false:=by simpa using h3
 have g4:(kind==4)=false:=by simpa using h4
 have g5:(kind==5)=false:=by simpa using h5
 have g6:(kind==6)=false:=by simpa using h6
 have g7:(kind==7)=false:=by simpa using h7
 have g8:(kind==8)=false:=by simpa using h8
 have g9:(kind==9)=false:=by simpa using h9
 have g10:(kind==10)=false:=by simpa using h10
 have g11:(kind==11)=false:=by simpa using h11
 have g12:(kind==12)=false:=by simpa using h12
 have g13:(kind==13)=false:=by simpa using h13
 have g14:(kind==14)=false:=by simpa using h14
 have g15:(kind==15)=false:=by simpa using h15
 clear h1 h2 h3 h4 h5 h6 h7 h8 h9 h10 h11 h12 h13 h14 h15;go_enter func40,ntmps40
 go_wp2;refine bodyPost_ret (v:= .tuple #[.agg #[.bool false,.bool false,.bool false,.bool false,.bool false,.bool false],.bool false]) (by simp[results,Tryz.results40,go_sem]) rfl ⟨by simp[Zw,aE,Sz,Po,Ln,Ix,ar,g1,g2,g3,g4,g5,g6,g7,g8,g9,g10,g11,g12,g13,g14,g15],Bd w _⟩
theorem Ag.six{W:World}{P t:Nat}{x0 x1 x2 x3 x4 x5:Value}(h:Ag W P (.cells #[x0,x1,x2,x3,x4,x5] t)):W.cell? ⟨P,0,none⟩=some x0/\W.cell? ⟨P,1,none⟩=some x1/\W.cell? ⟨P,2,none⟩=some x2/\W.cell? ⟨P,3,none⟩=some x3/\W.cell? ⟨P,4,none⟩=some x4/\W.cell? ⟨P,5,none⟩=some x5:=by
 unfold Ag at h;simp[World.cell?,h]
theorem VB(th kind id to' cat:Int)(d:ByteArray)(bl:Int)(al:Option Addr)(nl kl:Nat)(bc:Int)(ac:Option Addr)(nc kc:Nat)(used:Bool)(w:World):
 Calls prog 45 #[.agg #[th,.int .i64 kind,.int .i64 id,.int .i64 to',cat,.string d,.int .i64 bl,.slice al nl kl,.int .i64 bc,.slice ac nc kc],.bool used] w fun e w'=>e= .returned (.bool (Nb kind cat used))/\Below w w w':=by
 have hb0:=Bd w (.cells #[th,.int .i64 kind,.int .i64 id,.int .i64 to',cat,.string d,.int .i64 bl,.slice al nl kl,.int .i64 bc,.slice ac nc kc] 32);cases t:(cat==0)with
 |true=>
  go_enter func45,ntmps45
  go_wp2;go_ret;exact⟨Ah (by simp[Nb,t]),hb0⟩
 |false=>
  cases used with
  |true=>
   go_enter func45,ntmps45
   go_wp2_with(go_at_call 85;refine(Hs _ _).mono ?_;rintro e w' ⟨rfl,rfl⟩)
   go_ret;exact⟨Ah (by simp[Nb,t]),hb0⟩
  |false=>
   go_enter func45,ntmps45
   go_wp2;go_ret;exact⟨Ah (by simp[Nb,t]),hb0⟩
open Go
section
variable {P:Program}{ops:Array Oper}{Q:Exit->Act->World->Prop}{a:Act}{w:World}
def Bt(P:Program)(ops:Array Oper)(Q:Exit->Act->World->Prop)(i:Nat)(a:Act)(w:World):Prop:=wpOps P ops Q (List.range' i (ops.size-i)) a w
theorem Bt.region{id:Nat}(h:Bt P ops Q 0 a w):(Code.region id ops false).wp P Q a w:=by
 refine wp_region ?_;unfold Bt at h;rw[Nat.sub_zero,<-List.range_eq_range']at h;exact h
theorem Us{i n:Nat}(h:i<n):List.range' i (n-i)=i::List.range' (i+1) (n-(i+1)):=by
 obtain⟨k,hk⟩:∃k,n-i=k+1:=⟨n-i-1,by omega⟩;have:n-(i+1)=k:=by omega
 rw[hk,this,List.range'_succ]
theorem Bt.step{i:Nat}{o:Oper}(ho:ops[i]? =some o)(h:∀K':Act->World->Prop,Hid (∀a w,Bt P ops Q (i+1) a w->K' a w)->if Region.wanted o (yielded ops a.tmps)=true then Oper.wp P o a w K' Q else K' (a.put o.dst undef) w):Bt P ops Q i a w:=by
 have hlt:i<ops.size:=(Array.getElem?_eq_some_iff.1 ho).1;unfold Bt;rw[Us hlt];unfold wpOps;rw[ho];dsimp only;have:=h (wpOps P ops Q (List.range' (i+1) (ops.size-(i+1)))) (fun a w h=>h);split
 ·rename_i hw;rw[if_pos hw]at this;exact .inl this
 ·rename_i hw;rw[if_neg hw]at this;exact this
theorem Bt.take{i d:Nat}{o:Oper}(v:Value)(ho:ops[i]? =some o)(hd:o.dst=some d)(hw:Region.wanted o (yielded ops a.tmps)=true)(hv:(execOp a.eval o).run P w= .ok (.value v) w)
 (h:Bt P ops Q (i+1) (a.put (some d) v) w):Bt P ops Q i a w:=
 Bt.step ho fun K' hK=>by
  rw[if_pos hw];unfold Oper.wp;rw[hv];simp only[Oper.upon];rw[hd];exact hK.out _ _ h
theorem Bt.done{i:Nat}(hi:ops.size<=i)(h:Q .normal a w):Bt P ops Q i a w:=by
 unfold Bt;have:ops.size-i=0:=by omega
 rw[this];exact h
def Value.isUndef:Value->Bool
 | .tuple xs=>xs.size==0
 |_=>false
def idle(ops:Array Oper)(tmps:Array Value)(k:Nat):Bool:=match ops[k]? with
 |some o=> !(Region.wanted o (yielded ops tmps))&&match o.dst with
  |some d=>match tmps[d]? with
   |some v=>Value.isUndef v
   |none=>false
  |none=>true
 |none=>false
theorem Wc{d:Nat}(h:(match a.tmps[d]? with|some v=>Value.isUndef v|none=>false)=true):a.put (some d) undef=a:=by
 cases hv:a.tmps[d]? with
 |none=>rw[hv]at h;simp at h
 |some v=>
  rw[hv]at h;dsimp only at h;have hu:v=undef:=by
   cases v with
   |tuple xs=>
    have hs:xs.size=0:=(by simpa[Value.isUndef]using h);have:xs=#[]:=Array.eq_empty_of_size_eq_zero hs;rw[this];rfl
   |_=>simp[Value.isUndef]at h
  obtain⟨hlt,he⟩:=Array.getElem?_eq_some_iff.1 hv;cases a with
  |mk tmps defers=>
   simp only[Act.put];congr;apply Array.ext
   ·simp
   ·intro i h1 h2;by_cases e:d=i
    ·subst e;rw[Array.getElem_setIfInBounds_self];rw[<-hu];exact he.symm
    ·rw[Array.getElem_setIfInBounds_ne _ e]
theorem Bt.pass{j:Nat}(m:Nat):∀{i:Nat},i+m=j->(List.range' i m).all (idle ops a.tmps)=true->Bt P ops Q j a w->Bt P ops Q i a w:=by
 induction m with
 |zero=>intro i hi _ h;have e:i=j:=by omega
        rw[e];exact h
 |succ m ih=>
  intro i hi hall h;rw[List.range'_succ,List.all_cons,Bool.and_eq_true]at hall;obtain⟨h1,h2⟩:=hall;have hrest:=ih (i:=i+1) (by omega) h2 h;unfold idle at h1;cases ho:ops[i]? with
  |none=>rw[ho]at h1;simp at h1
  |some o=>
   rw[ho]at h1;dsimp only at h1;rw[Bool.and_eq_true]at h1;have hw:Region.wanted o (yielded ops a.tmps)=false:=(by simpa using h1.1);refine Bt.step ho fun K' hK=>?_;rw[if_neg (by rw[hw];simp)];cases hd:o.dst with
   |none=>exact hK.out _ _ hrest
   |some d=>
    have h3:=h1.2;rw[hd]at h3;dsimp only at h3;rw[Wc h3];exact hK.out _ _ hrest
end
section
variable {P:Program}{ops:Array Oper}{Q:Exit->Act->World->Prop}{w:World}
def Jg(ev:Operand->Value):Op->Option Value
 | .move x=>some (ev x)
 | .assign x=>some (ev x)
 | .pick c x y=>match ev c with
  | .bool true=>some (ev x)
  | .bool false=>some (ev y)
  |_=>none
 |_=>none
theorem RN{a:Act}{o:Oper}{v:Value}(h:Jg a.eval o.op=some v):(execOp a.eval o).run P w= .ok (.value v) w:=by
 cases o with
 |mk dst op type pos after guard=>
  cases op with
  |move x=>cases h;rfl
  |assign x=>cases h;rfl
  |pick c x y=>
   simp only[Jg]at h;generalize hc:a.eval c=vc at h;cases vc with
   |bool b=>
    cases b with
    |true=>cases h;simp only[execOp];rw[hc];rfl
    |false=>cases h;simp only[execOp];rw[hc];rfl
   |_=>simp at h
  |_=>simp[Jg]at h
def carry1(ops:Array Oper)(a:Act)(i:Nat):Option Act:=match ops[i]? with
 |none=>none
 |some o=>match Region.wanted o (yielded ops a.tmps)with
  |true=>match Jg a.eval o.op with
   |some v=>some (a.put o.dst v)
   |none=>none
  |false=>match idle ops a.tmps i with
   |true=>some a
   |false=>none
def carry(ops:Array Oper):Nat->Nat->Act->Option Act
 |0,_,a=>some a
 |m+1,i,a=>match carry1 ops a i with
  |some a'=>carry ops m (i+1) a'
  |none=>none
theorem Bt.carry1{i:Nat}{a a':Act}(h:carry1 ops a i=some a')(hr:Bt P ops Q (i+1) a' w):Bt P ops Q i a w:=by
 unfold YtbdagpckhfcneaaGreatDoor.carry1 at h;cases ho:ops[i]? with
 |none=>rw[ho]at h;simp at h
 |some o=>
  rw[ho]at h;dsimp only at h;cases hw:Region.wanted o (yielded ops a.tmps)with
  |true=>
   rw[hw]at h;dsimp only at h;cases hc:Jg a.eval o.op with
   |none=>rw[hc]at h;simp at h
   |some v=>
    rw[hc]at h;dsimp only at h;cases h;refine Bt.step ho fun K' hK=>?_;rw[if_pos hw];unfold Oper.wp;rw[RN hc];simp only[Oper.upon];exact hK.out _ _ hr
  |false=>
   rw[hw]at h;dsimp only at h;cases hi:idle ops a.tmps i with
   |false=>rw[hi]at h;simp at h
   |true=>
    rw[hi]at h;dsimp only at h;cases h;exact Bt.pass 1 (i:=i) (j:=i+1) rfl (by simp[hi]) hr
theorem Bt.carry(m:Nat):∀{i j:Nat}{a a':Act},i+m=j->carry ops m i a=some a'->Bt P ops Q j a' w->Bt P ops Q i a w:=by
 induction m with
 |zero=>intro i j a a' hj h hr;cases h;have e:i=j:=by omega
        rw[e];exact hr
 |succ m ih=>
  intro i j a a' hj h hr;unfold YtbdagpckhfcneaaGreatDoor.carry at h;cases hc:YtbdagpckhfcneaaGreatDoor.carry1 ops a i with
  |none=>rw[hc]at h;simp at h
  |some a1=>
   rw[hc]at h;dsimp only at h;exact Bt.carry1 hc (ih (i:=i+1) (by omega) h hr)
theorem Pd{i:Nat}{a a':Act}(h:carry1 ops a i=some a'):a'.defers=a.defers:=by
 unfold YtbdagpckhfcneaaGreatDoor.carry1 at h;cases ho:ops[i]? with
 |none=>rw[ho]at h;simp at h
 |some o=>
  rw[ho]at h;dsimp only at h;cases hw:Region.wanted o (yielded ops a.tmps)with
  |true=>
   rw[hw]at h;dsimp only at h;cases hc:Jg a.eval o.op with
   |none=>rw[hc]at h;simp at h
   |some v=>
    rw[hc]at h;dsimp only at h;cases h;unfold Act.put;cases o.dst<;>rfl
  |false=>
   rw[hw]at h;dsimp only at h;cases hi:idle ops a.tmps i with
   |false=>rw[hi]at h;simp at h
   |true=>
    rw[hi]at h;dsimp only at h;cases h;rfl
theorem Qy(m:Nat):∀{i:Nat}{a a':Act},carry ops m i a=some a'->a'.defers=a.defers:=by
 induction m with
 |zero=>intro i a a' h;cases h;rfl
 |succ m ih=>
  intro i a a' h;unfold YtbdagpckhfcneaaGreatDoor.carry at h;cases hc:YtbdagpckhfcneaaGreatDoor.carry1 ops a i with
  |none=>rw[hc]at h;simp at h
  |some a1=>
   rw[hc]at h;dsimp only at h;exact(ih h).trans (Pd hc)
def QD(t:Nat):Option Act->Bool
 |some a=>match a.tmps[t]? with
  |some (.bool b)=> !b
  |_=>false
 |none=>false
theorem Bt.falls(t m:Nat){i:Nat}{a:Act}(hm:i+m=ops.size)(h:QD t (YtbdagpckhfcneaaGreatDoor.carry ops m i a)=true)
 (hr:∀T:Array Value,T[t]? =some (.bool false)->Q .normal ⟨T,a.defers⟩ w):Bt P ops Q i a w:=by
 cases hc:YtbdagpckhfcneaaGreatDoor.carry ops m i a with
 |none=>rw[hc]at h;simp[QD]at h
 |some a'=>
  rw[hc]at h;have hd:=Qy m hc;refine Bt.carry m hm hc (Bt.done nr ?_);have hT:a'.tmps[t]? =some (.bool false):=by
   unfold QD at h;dsimp only at h;split at h
   ·rename_i b hb;cases b with
    |true=>simp at h
    |false=>exact hb
   ·simp at h
  have:=hr a'.tmps hT;rw[<-hd]at this;exact this
theorem Dw{T:Array Value}{D:List Deferred}{t:Nat}{x:Bool}(hT:T[t]? =some (.bool false))(hx:x=false):Ending.returned (({tmps:=T,defers:=D}:Act).tmps.getD t undef)=Ending.returned (.bool x):=by
 subst hx;simp[Array.getD_eq_getD_getElem?,hT]
end
section
variable {P:Program}{ops:Array Oper}{Q:Exit->Act->World->Prop}{a:Act}{w:World}
theorem Bt.tk(i d:Nat){o:Oper}(v:Value)(h:Bt P ops Q (i+1) (a.put (some d) v) w)(ho:ops[i]? =some o:=by rfl)(hd:o.dst=some d:=by rfl)
 (hw:Region.wanted o (yielded ops a.tmps)=true:=by kernel_rfl)(hv:(execOp a.eval o).run P w= .ok (.value v) w:=by go_simp):Bt P ops Q i a w:=Bt.take v ho hd hw hv h
def PR:List Nat->List Value->Act->Act
 |d::ds,x::xs,a=>PR ds xs (a.put (some d) x)
 |_,_,a=>a
theorem Bt.opt(ds:List Nat)(R:List Value->World->Prop)(j:Nat){i:Nat}(h1:∀xs w',R xs w'->Bt P ops Q j (PR ds xs a) w')
 (h2:(∀xs w',R xs w'->Bt P ops Q j (PR ds xs a) w')->Bt P ops Q i a w):Bt P ops Q i a w:=h2 h1
end
def Xd:Prop:=∀(th kind id to' cat:Int) (d:ByteArray) (bl:Int) (al:Option Addr) (nl kl:Nat) (fl gl:Nat->Int) (bc:Int) (ac:Option Addr) (nc kc:Nat) (fc gc:Nat->Int) (w:World) (_:d.size<=maxLen) (_:nl<=maxLen) (_:nc<=maxLen) (_:AX w al nl fl gl) (_:AX w ac nc fc gc),
 Calls prog 13 #[.agg #[th,.int .i64 kind,.int .i64 id,.int .i64 to',cat,.string d,.int .i64 bl,.slice al nl kl,.int .i64 bc,.slice ac nc kc]] w fun e w'=>e= .returned (.bool (Hg th kind id to' cat d bl nl fl gl bc nc fc gc))/\Below w w w'
theorem Qe:Xd:=by
 intro th kind id to' cat d bl al nl kl fl gl bc ac nc kc fc gc w hd hnl hnc hcl hcc;have n1:Na #[th,.int .i64 kind,.int .i64 id,.int .i64 to',cat,.string d,.int .i64 bl,.slice al nl kl,.int .i64 bc,.slice ac nc kc]:=⟨⟩;have L0:=Bd w (.cells n1 32);have A0:=Ag.new w (.cells n1 32);unfold Hg;have HU:=TJ kind;generalize ar kind=ok at *;generalize Zw kind=ui at *;generalize aE kind=ut at *;generalize Sz kind=uc at *;generalize Po kind=ud at *;generalize Ln kind=ul at *;generalize Ix kind=ue at *;go_enter func13,ntmps13
 go_wp2_with fail
 refine(HU _).mono ?_;rintro e w1 ⟨rfl,hb1⟩;have n2:No (.cells #[.bool ui,.bool ut,.bool uc,.bool ud,.bool ul,.bool ue] 78):=⟨⟩;have K1:=(Below.refl _ w1).alloc nr n2;have A:=(A0.below hb1).below K1;have U:=Ag.new w1 n2;have L:Below w w (w1.alloc n2):=L0.trans ((hb1.mono (by simp)).trans (K1.mono (by have:=hb1.size;simp at this;omega)));clear hb1 K1 A0 L0;obtain⟨c0,c1,c2,c3,c4,c5,c6,c7,c8,c9⟩:=A.jE;go_upto_region 2 with fail
 clear c0 c1 c2 c3 c4 c5 c6 c7 c8 c9;generalize w1.alloc n2=W1 at *;generalize w1.heap.size=PU at *;refine Bt.region ?_;cases ok
 ·refine Bt.falls 2 74 rfl (by kernel_rfl) (fun T hT=>?_);go_wp2;go_ret;exact⟨Dw hT (by simp[EZ]),L⟩
 by_cases s1:1<=th;rotate_left
 ·have t2:DZ th 1 9=false:=by simp[DZ,s1]
  refine Bt.tk 0 11 (.bool true) ?_;simp only[ap,List.set];refine Bt.tk 1 12 (.bool true) ?_;simp only[ap,List.set];refine Bt.tk 2 13 (.pointer (w)) ?_;simp only[ap,List.set];refine Bt.tk 3 14 (.int .i64 th) ?_ (hv:=by obtain⟨c0,c1,c2,c3,c4,c5,c6,c7,c8,c9⟩:=A.jE;obtain⟨v0,v1,v2,v3,v4,v5⟩:=U.six;go_simp);simp only[ap,List.set];refine Bt.tk 4 15 (.bool false) ?_;simp only[ap,List.set];refine Bt.falls 2 69 rfl (by kernel_rfl) (fun T hT=>?_);go_wp2;go_ret;exact⟨Dw hT (by simp[EZ,t2]),L⟩
 by_cases s2:th<=9;rotate_left
 ·have t2:DZ th 1 9=false:=by simp[DZ,s2]
  refine Bt.tk 0 11 (.bool true) ?_;simp only[ap,List.set];refine Bt.tk 1 12 (.bool true) ?_;simp only[ap,List.set];have n3:Nv (.pointer (w)):=⟨⟩;refine Bt.tk 2 13 n3 ?_;simp only[ap,List.set];refine Bt.tk 3 14 (.int .i64 th) ?_ (hv:=by obtain⟨c0,c1,c2,c3,c4,c5,c6,c7,c8,c9⟩:=A.jE;obtain⟨v0,v1,v2,v3,v4,v5⟩:=U.six;go_simp);simp only[ap,List.set];refine Bt.tk 4 15 (.bool true) ?_;simp only[ap,List.set];refine Bt.tk 5 16 (.bool true) ?_;simp only[ap,List.set];refine Bt.tk 6 17 (.bool true) ?_;simp only[ap,List.set];refine Bt.tk 7 18 n3 ?_;simp only[ap,List.set];refine Bt.tk 8 19 (.int .i64 th) ?_ (hv:=by obtain⟨c0,c1,c2,c3,c4,c5,c6,c7,c8,c9⟩:=A.jE;obtain⟨v0,v1,v2,v3,v4,v5⟩:=U.six;go_simp);simp only[ap,List.set];refine Bt.tk 9 20 (.bool false) ?_;simp only[ap,List.set];refine Bt.falls 2 64 rfl (by kernel_rfl) (fun T hT=>?_);go_wp2;go_ret;exact⟨Dw hT (by simp[EZ,t2]),L⟩
 have t2:DZ th 1 9=true:=Eg.2 ⟨s1,s2⟩;refine Bt.tk 0 11 (.bool true) ?_;simp only[ap,List.set];refine Bt.tk 1 12 (.bool true) ?_;simp only[ap,List.set];have n4:Nv (.pointer (w)):=⟨⟩;refine Bt.tk 2 13 n4 ?_;simp only[ap,List.set];refine Bt.tk 3 14 (.int .i64 th) ?_ (hv:=by obtain⟨c0,c1,c2,c3,c4,c5,c6,c7,c8,c9⟩:=A.jE;obtain⟨v0,v1,v2,v3,v4,v5⟩:=U.six;go_simp);simp only[ap,List.set];refine Bt.tk 4 15 (.bool true) ?_;simp only[ap,List.set];refine Bt.tk 5 16 (.bool true) ?_;simp only[ap,List.set];refine Bt.tk 6 17 (.bool true) ?_;simp only[ap,List.set];refine Bt.tk 7 18 n4 ?_;simp only[ap,List.set];refine Bt.tk 8 19 (.int .i64 th) ?_ (hv:=by obtain⟨c0,c1,c2,c3,c4,c5,c6,c7,c8,c9⟩:=A.jE;obtain⟨v0,v1,v2,v3,v4,v5⟩:=U.six;go_simp);simp only[ap,List.set];refine Bt.tk 9 20 (.bool true) ?_;simp only[ap,List.set];refine Bt.tk 10 21 (.bool true) ?_;simp only[ap,List.set];refine Bt.tk 11 22 (.bool true) ?_;simp only[ap,List.set];have n5:Nv (.pointer (some ⟨w,6,none⟩)):=⟨⟩;refine Bt.tk 12 23 n5 ?_;simp only[ap,List.set];have n8:Nv (.agg #[.int .i64 bl,.slice al nl kl]):=⟨⟩;refine Bt.tk 13 24 n8 ?_ (hv:=by obtain⟨c0,c1,c2,c3,c4,c5,c6,c7,c8,c9⟩:=A.jE;obtain⟨v0,v1,v2,v3,v4,v5⟩:=U.six;go_simp);simp only[ap,List.set];refine Bt.step rfl (fun K1 hK1=>?_);go_simp;refine(Ea _ _ _ _ fl gl _ hnl (hcl.below L)).mono ?_;rintro e W2 ⟨rfl,hb⟩;replace A:=A.below hb;replace U:=U.below hb;replace L:Below w w W2:=L.trans (hb.mono L.size);clear hb;cases t3:Ba bl nl fl gl
 ·refine hK1 _ _ ?_;clear hK1 K1;refine Bt.falls 2 59 rfl (by kernel_rfl) (fun T hT=>?_);go_wp2;go_ret;exact⟨Dw hT (by simp[EZ,t2,t3]),L⟩
 refine hK1 _ _ ?_;clear hK1 K1;try simp only[ap,List.set]
 refine Bt.tk 15 26 (.bool true) ?_;simp only[ap,List.set];refine Bt.tk 16 27 (.bool true) ?_;simp only[ap,List.set];refine Bt.tk 17 28 (.pointer (some ⟨PU,4,none⟩)) ?_;simp only[ap,List.set];refine Bt.tk 18 29 (.bool ul) ?_ (hv:=by obtain⟨c0,c1,c2,c3,c4,c5,c6,c7,c8,c9⟩:=A.jE;obtain⟨v0,v1,v2,v3,v4,v5⟩:=U.six;go_simp);simp only[ap,List.set];refine Bt.tk 19 30 (.bool ul) ?_;simp only[ap,List.set];refine Bt.opt [31,32,33,34] (fun xs W=>(∃x y z,xs=[x,y,z,.bool (ul||Dt bl nl)])/\Ag W w (.cells n1 32)/\Ag W PU n2/\Below w w W) 24 ?_ (fun REST=>?_);rotate_left
 ·cases ul
  ·skip;refine Bt.tk 20 31 n5 ?_;simp only[ap,List.set];refine Bt.tk 21 32 n8 ?_ (hv:=by obtain⟨c0,c1,c2,c3,c4,c5,c6,c7,c8,c9⟩:=A.jE;obtain⟨v0,v1,v2,v3,v4,v5⟩:=U.six;go_simp);simp only[ap,List.set];refine Bt.step rfl (fun K1 hK1=>?_);go_simp;refine(JK _ _ _ _ _ hnl).mono ?_;rintro e W2 ⟨rfl,hb⟩;replace A:=A.below hb;replace U:=U.below hb;replace L:Below w w W2:=L.trans (hb.mono L.size);clear hb;refine hK1 _ _ ?_;clear hK1 K1;try simp only[ap,List.set]
   refine Bt.tk 23 34 (.bool (Dt bl nl)) ?_;simp only[ap,List.set];exact REST _ _ ⟨⟨_,_,_,rfl⟩,A,U,L⟩
  ·refine Bt.pass (j:=23) 3 rfl (by kernel_rfl) ?_;refine Bt.tk 23 34 (.bool true) ?_;simp only[ap,List.set];exact REST _ _ ⟨⟨undef,undef,undef,rfl⟩,A,U,L⟩
 clear A U L;rintro xs W ⟨⟨x,y,z,rfl⟩,A,U,L⟩;simp only[PR,ap,List.set];cases t4:(ul||Dt bl nl)
 ·refine Bt.falls 2 50 rfl (by kernel_rfl) (fun T hT=>?_);go_wp2;go_ret;exact⟨Dw hT (by simp[EZ,t2,t3,t4]),L⟩
 refine Bt.tk 24 35 (.bool true) ?_;simp only[ap,List.set];refine Bt.tk 25 36 (.bool true) ?_;simp only[ap,List.set];have n6:Nv (.pointer (some ⟨w,8,none⟩)):=⟨⟩;refine Bt.tk 26 37 n6 ?_;simp only[ap,List.set];have n9:Nv (.agg #[.int .i64 bc,.slice ac nc kc]):=⟨⟩;refine Bt.tk 27 38 n9 ?_ (hv:=by obtain⟨c0,c1,c2,c3,c4,c5,c6,c7,c8,c9⟩:=A.jE;obtain⟨v0,v1,v2,v3,v4,v5⟩:=U.six;go_simp);simp only[ap,List.set];refine Bt.step rfl (fun K1 hK1=>?_);go_simp;refine(Ea _ _ _ _ fc gc _ hnc (hcc.below L)).mono ?_;rintro e W2 ⟨rfl,hb⟩;replace A:=A.below hb;replace U:=U.below hb;replace L:Below w w W2:=L.trans (hb.mono L.size);clear hb;cases t5:Ba bc nc fc gc
 ·refine hK1 _ _ ?_;clear hK1 K1;refine Bt.falls 2 45 rfl (by kernel_rfl) (fun T hT=>?_);go_wp2;go_ret;exact⟨Dw hT (by simp[EZ,t2,t3,t4,t5]),L⟩
 refine hK1 _ _ ?_;clear hK1 K1;try simp only[ap,List.set]
 refine Bt.tk 29 40 (.bool true) ?_;simp only[ap,List.set];refine Bt.tk 30 41 (.bool true) ?_;simp only[ap,List.set];refine Bt.tk 31 42 (.pointer (some ⟨PU,5,none⟩)) ?_;simp only[ap,List.set];refine Bt.tk 32 43 (.bool ue) ?_ (hv:=by obtain⟨c0,c1,c2,c3,c4,c5,c6,c7,c8,c9⟩:=A.jE;obtain⟨v0,v1,v2,v3,v4,v5⟩:=U.six;go_simp);simp only[ap,List.set];refine Bt.tk 33 44 (.bool ue) ?_;simp only[ap,List.set];refine Bt.opt [45,46,47,48] (fun xs W=>(∃x y z,xs=[x,y,z,.bool (ue||Dt bc nc)])/\Ag W w (.cells n1 32)/\Ag W PU n2/\Below w w W) 38 ?_ (fun REST=>?_);rotate_left
 ·cases ue
  ·skip;refine Bt.tk 34 45 n6 ?_;simp only[ap,List.set];refine Bt.tk 35 46 n9 ?_ (hv:=by obtain⟨c0,c1,c2,c3,c4,c5,c6,c7,c8,c9⟩:=A.jE;obtain⟨v0,v1,v2,v3,v4,v5⟩:=U.six;go_simp);simp only[ap,List.set];refine Bt.step rfl (fun K1 hK1=>?_);go_simp;refine(JK _ _ _ _ _ hnc).mono ?_;rintro e W2 ⟨rfl,hb⟩;replace A:=A.below hb;replace U:=U.below hb;replace L:Below w w W2:=L.trans (hb.mono L.size);clear hb;refine hK1 _ _ ?_;clear hK1 K1;try simp only[ap,List.set]
   refine Bt.tk 37 48 (.bool (Dt bc nc)) ?_;simp only[ap,List.set];exact REST _ _ ⟨⟨_,_,_,rfl⟩,A,U,L⟩
  ·refine Bt.pass (j:=37) 3 rfl (by kernel_rfl) ?_;refine Bt.tk 37 48 (.bool true) ?_;simp only[ap,List.set];exact REST _ _ ⟨⟨undef,undef,undef,rfl⟩,A,U,L⟩
 clear A U L;rintro xs W ⟨⟨x,y,z,rfl⟩,A,U,L⟩;simp only[PR,ap,List.set];cases t6:(ue||Dt bc nc)
 ·refine Bt.falls 2 36 rfl (by kernel_rfl) (fun T hT=>?_);go_wp2;go_ret;exact⟨Dw hT (by simp[EZ,t2,t3,t4,t5,t6]),L⟩
 refine Bt.tk 38 49 (.bool true) ?_;simp only[ap,List.set];refine Bt.tk 39 50 (.bool true) ?_;simp only[ap,List.set];have n7:Nv (.pointer (some ⟨w,5,none⟩)):=⟨⟩;refine Bt.tk 40 51 n7 ?_;simp only[ap,List.set];refine Bt.tk 41 52 (.string d) ?_ (hv:=by obtain⟨c0,c1,c2,c3,c4,c5,c6,c7,c8,c9⟩:=A.jE;obtain⟨v0,v1,v2,v3,v4,v5⟩:=U.six;go_simp);simp only[ap,List.set];refine Bt.step rfl (fun K1 hK1=>?_);go_simp;refine(JV d _ hd).mono ?_;rintro e W2 ⟨rfl,hb⟩;replace A:=A.below hb;replace U:=U.below hb;replace L:Below w w W2:=L.trans (hb.mono L.size);clear hb;cases t7:By d 40
 ·refine hK1 _ _ ?_;clear hK1 K1;refine Bt.falls 2 31 rfl (by kernel_rfl) (fun T hT=>?_);go_wp2;go_ret;exact⟨Dw hT (by simp[EZ,t2,t3,t4,t5,t6,t7]),L⟩
 refine hK1 _ _ ?_;clear hK1 K1;try simp only[ap,List.set]
 refine Bt.tk 43 54 (.bool true) ?_;simp only[ap,List.set];refine Bt.tk 44 55 (.bool true) ?_;simp only[ap,List.set];refine Bt.tk 45 56 (.pointer (some ⟨PU,3,none⟩)) ?_;simp only[ap,List.set];refine Bt.tk 46 57 (.bool ud) ?_ (hv:=by obtain⟨c0,c1,c2,c3,c4,c5,c6,c7,c8,c9⟩:=A.jE;obtain⟨v0,v1,v2,v3,v4,v5⟩:=U.six;go_simp);simp only[ap,List.set];refine Bt.tk 47 58 (.bool ud) ?_;simp only[ap,List.set];refine Bt.opt [59,60,61,62] (fun xs W=>(∃x y z,xs=[x,y,z,.bool (ud||JD d)])/\Ag W w (.cells n1 32)/\Ag W PU n2/\Below w w W) 52 ?_ (fun REST=>?_);rotate_left
 ·cases ud
  ·skip;refine Bt.tk 48 59 n7 ?_;simp only[ap,List.set];refine Bt.tk 49 60 (.string d) ?_ (hv:=by obtain⟨c0,c1,c2,c3,c4,c5,c6,c7,c8,c9⟩:=A.jE;obtain⟨v0,v1,v2,v3,v4,v5⟩:=U.six;go_simp);simp only[ap,List.set];refine Bt.tk 50 61 (.bool (JD d)) ?_ (hv:=by unfold JD;go_simp);simp only[ap,List.set];refine Bt.tk 51 62 (.bool (JD d)) ?_;simp only[ap,List.set];exact REST _ _ ⟨⟨_,_,_,rfl⟩,A,U,L⟩
  ·refine Bt.pass (j:=51) 3 rfl (by kernel_rfl) ?_;refine Bt.tk 51 62 (.bool true) ?_;simp only[ap,List.set];exact REST _ _ ⟨⟨undef,undef,undef,rfl⟩,A,U,L⟩
 clear A U L;rintro xs W ⟨⟨x,y,z,rfl⟩,A,U,L⟩;simp only[PR,ap,List.set];cases t8:(ud||JD d)
 ·refine Bt.falls 2 22 rfl (by kernel_rfl) (fun T hT=>?_);go_wp2;go_ret;exact⟨Dw hT (by simp[EZ,t2,t3,t4,t5,t6,t7,t8]),L⟩
 refine Bt.tk 52 63 (.bool true) ?_;simp only[ap,List.set];refine Bt.tk 53 64 (.bool true) ?_;simp only[ap,List.set];refine Bt.tk 54 65 (.pointer (some ⟨w,2,none⟩)) ?_;simp only[ap,List.set];refine Bt.tk 55 66 (.int .i64 id) ?_ (hv:=by obtain⟨c0,c1,c2,c3,c4,c5,c6,c7,c8,c9⟩:=A.jE;obtain⟨v0,v1,v2,v3,v4,v5⟩:=U.six;go_simp);simp only[ap,List.set];refine Bt.tk 56 67 (.pointer PU) ?_;simp only[ap,List.set];refine Bt.tk 57 68 (.bool ui) ?_ (hv:=by obtain⟨c0,c1,c2,c3,c4,c5,c6,c7,c8,c9⟩:=A.jE;obtain⟨v0,v1,v2,v3,v4,v5⟩:=U.six;go_simp);simp only[ap,List.set];refine Bt.step rfl (fun K1 hK1=>?_);go_simp;refine(J6 _ _ _).mono ?_;rintro e W2 ⟨rfl,hb⟩;subst hb;cases t9:Ls id ui
 ·refine hK1 _ _ ?_;clear hK1 K1;refine Bt.falls 2 15 rfl (by kernel_rfl) (fun T hT=>?_);go_wp2;go_ret;exact⟨Dw hT (by simp[EZ,t2,t3,t4,t5,t6,t7,t8,t9]),L⟩
 refine hK1 _ _ ?_;clear hK1 K1;try simp only[ap,List.set]
 refine Bt.tk 59 70 (.bool true) ?_;simp only[ap,List.set];refine Bt.tk 60 71 (.bool true) ?_;simp only[ap,List.set];refine Bt.tk 61 72 (.pointer (some ⟨w,3,none⟩)) ?_;simp only[ap,List.set];refine Bt.tk 62 73 (.int .i64 to') ?_ (hv:=by obtain⟨c0,c1,c2,c3,c4,c5,c6,c7,c8,c9⟩:=A.jE;obtain⟨v0,v1,v2,v3,v4,v5⟩:=U.six;go_simp);simp only[ap,List.set];refine Bt.tk 63 74 (.pointer (some ⟨PU,1,none⟩)) ?_;simp only[ap,List.set];refine Bt.tk 64 75 (.bool ut) ?_ (hv:=by obtain⟨c0,c1,c2,c3,c4,c5,c6,c7,c8,c9⟩:=A.jE;obtain⟨v0,v1,v2,v3,v4,v5⟩:=U.six;go_simp);simp only[ap,List.set];refine Bt.step rfl (fun K1 hK1=>?_);go_simp;refine(J6 _ _ _).mono ?_;rintro e W2 ⟨rfl,hb⟩;subst hb;cases t10:Ls to' ut
 ·refine hK1 _ _ ?_;clear hK1 K1;refine Bt.falls 2 8 rfl (by kernel_rfl) (fun T hT=>?_);go_wp2;go_ret;exact⟨Dw hT (by simp[EZ,t2,t3,t4,t5,t6,t7,t8,t9,t10]),L⟩
 refine hK1 _ _ ?_;clear hK1 K1;try simp only[ap,List.set]
 refine Bt.tk 66 77 (.bool true) ?_;simp only[ap,List.set];refine Bt.tk 67 78 (.bool true) ?_;simp only[ap,List.set];refine Bt.tk 68 79 (.agg n1) ?_ (hv:=by obtain⟨c0,c1,c2,c3,c4,c5,c6,c7,c8,c9⟩:=A.jE;obtain⟨v0,v1,v2,v3,v4,v5⟩:=U.six;go_simp);simp only[ap,List.set];refine Bt.tk 69 80 (.pointer (some ⟨PU,2,none⟩)) ?_;simp only[ap,List.set];refine Bt.tk 70 81 (.bool uc) ?_ (hv:=by obtain⟨c0,c1,c2,c3,c4,c5,c6,c7,c8,c9⟩:=A.jE;obtain⟨v0,v1,v2,v3,v4,v5⟩:=U.six;go_simp);simp only[ap,List.set];refine Bt.step rfl (fun K1 hK1=>?_);go_simp;refine(VB _ _ _ _ _ _ _ _ _ _ _ _ _ _ _ _).mono ?_;rintro e W2 ⟨rfl,hb⟩;replace A:=A.below hb;replace U:=U.below hb;replace L:Below w w W2:=L.trans (hb.mono L.size);clear hb;refine hK1 _ _ ?_;clear hK1 K1;try simp only[ap,List.set]
 refine Bt.tk 72 83 (.bool (Nb kind cat uc)) ?_;simp only[ap,List.set];refine Bt.tk 73 2 (.bool (Nb kind cat uc)) ?_;simp only[ap,List.set];refine Bt.done (Nat.le_of_eq (by rfl)) ?_;go_wp2;go_ret;exact⟨Ah (by simp[EZ,t2,t3,t4,t5,t6,t7,t8,t9,t10]),L⟩
open Go.Maps
theorem X8(t:Ae)(x:Int)(P:Nat)(w:World)(hP:w.cell? ⟨P,0,none⟩=some (.int .i64 x))(hl:P<w.heap.size):
 Calls prog 87 #[.agg t,.pointer P] w fun e w'=>e= .returned (.bool (t.id==x))/\Below w w w':=by
 have b0:=Bd w (.cells t 42);have h1:=(b0.cell (p:=⟨P,0,none⟩) hl).trans hP;go_enter func87,ntmps87
 go_wp2;go_ret;exact⟨rfl,b0⟩
theorem Oj(a:Option Addr)(n cap:Nat)(T:Nat->Ae)(x:Int)(P:Nat)(w:World)(hn:n<=maxLen)(hT:Ic w a n T)(hP:w.cell? ⟨P,0,none⟩=some (.int .i64 x))(hl:P<w.heap.size):
 Calls prog 86 #[.slice a n cap,.func (.func 87) #[] #[.pointer P]] w fun e w'=>e= .returned (.int .i64 (FX (Bh (fun i=>(T i).id) n x)))/\Below w w w':=by
 unfold maxLen at hn;have HT:=hid hT;clear hT;go_enter func86,ntmps86
 go_wp2;go_loopw [8] (fun i wr=>∃q:Nat,q<=n/\i= .int .i64 q/\Hid (∀j,j<q->(T j).id≠x)/\Below w w wr) (fun i _=>n-(intOf i).toNat)
 case atStart=>exact⟨0,Nat.zero_le _,rfl,hid (fun j hj=>by omega),Below.refl _ _⟩
 case round=>
  obtain⟨q,hq,rfl,HA,hB⟩:=hrel;by_cases hlt:q<n
  ·obtain⟨b,off,rfl,_,hcc⟩:=HT.out.below hB (by omega);obtain⟨⟨q0,q1,q2,q3,q4,q5,q6⟩,ht⟩:=hcc q hlt;simp only[Aq.val,AH.val]at q2 q4 q5;have i1:(q:Int)<(n:Int):=(by omega);have hp:=(hB.cell (p:=⟨P,0,none⟩) hl).trans hP;have C1:=hid (X8 (T q) x P wr hp (Nat.lt_of_lt_of_le hl hB.size));clear hcc ht;by_cases e:(T q).id=x
   ·have HF:=hid (IJ (ids:=fun i=>(T i).id) hlt e HA);have e':((T q).id==x)=true:=(by simpa using e);rw[e']at C1;clear e HA e';go_wp2_with(go_at_call 87;refine C1.out.mono ?_;rintro e w1 ⟨rfl,hb1⟩;have B1:=Af hB hb1)
    go_ret;exact⟨Ew (by rw[HF.out];rfl),B1⟩
   ·have e':((T q).id==x)=false:=(by simpa using e);have HA2:Hid (∀j,j<q+1->(T j).id≠x):=hid (fun j hj=>by
     by_cases ej:j=q
     ·subst ej;exact e
     ·exact HA.out j (by omega))
    rw[e']at C1;clear e HA e';go_wp2_with(go_at_call 87;refine C1.out.mono ?_;rintro e w1 ⟨rfl,hb1⟩;have B1:=Af hB hb1)
    exact⟨⟨q+1,by omega,by go_num,HA2,B1⟩,by simp[intOf];omega⟩
  ·have i1:¬(q:Int)<(n:Int):=(by omega);have HF:=hid (Kf (ids:=fun i=>(T i).id) (n:=n) (x:=x) (fun j hj=>HA j (by omega)));clear HA;go_wp2;go_ret;exact⟨Ew (by rw[HF.out];rfl),hB⟩
theorem Ip(a:Option Addr)(n cap:Nat)(T:Nat->Ae)(x:Int)(w:World)(hn:n<=maxLen)(hT:Ic w a n T):
 Calls prog 46 #[.slice a n cap,.int .i64 x] w fun e w'=>e= .returned (.int .i64 (FX (Bh (fun i=>(T i).id) n x)))/\Below w w w':=by
 have b0:Below w w (w.alloc (.cells #[.int .i64 x] 2)):=Bd w _;have A0:=Ag.new w (.cells #[.int .i64 x] 2);have C1:=hid (Oj a n cap T x w _ hn (hT.below b0) (A0.c0 0 rfl) A0.lt);clear hT;go_enter func46,ntmps46
 go_wp2_with(go_at_call 86;refine C1.out.mono ?_;rintro e w1 ⟨rfl,hb1⟩;have B1:=Af b0 hb1)
 go_ret;exact⟨rfl,B1⟩
end Go.Proofs.YtbdagpckhfcneaaGreatDoor
