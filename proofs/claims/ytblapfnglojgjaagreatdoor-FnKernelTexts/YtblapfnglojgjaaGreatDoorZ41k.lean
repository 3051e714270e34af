import Derived.Orders
import Derived.Test.YtblapfnglojgjaaGreatDoorRows
import Derived.OpenShut
import Derived.ShutString
import Derived.ChangeOld
import Derived.ChangeMaps5
import Derived.Lib.SmallJoins
import Derived.Deep.SlicePairs
import Derived.Test.YtblapfnglojgjaaGreatDoorZ40k
set_option maxRecDepth 100000
set_option maxHeartbeats 16000000
namespace Go.Proofs.YtblapfnglojgjaaGreatDoor
open Go Go.RowKit Go.Deep
section
variable {P:Program}{ops:Array Oper}{Q:Exit->Act->World->Prop}{a:Act}{w:World}
def Ev(P:Program)(ops:Array Oper)(Q:Exit->Act->World->Prop)(i:Nat)(a:Act)(w:World):Prop:=wpOps P ops Q (List.range' i (ops.size-i)) a w
theorem Ev.region{id:Nat}(h:Ev P ops Q 0 a w):(Code.region id ops false).wp P Q a w:=by
 refine wp_region ?_;unfold Ev at h;rw[Nat.sub_zero,<-List.range_eq_range']at h;exact h
theorem VO{i n:Nat}(h:i<n):List.range' i (n-i)=i::List.range' (i+1) (n-(i+1)):=by
 obtain⟨k,hk⟩:∃k,n-i=k+1:=⟨n-i-1,by omega⟩;have:n-(i+1)=k:=by omega
 rw[hk,this,List.range'_succ]
theorem Ev.step{i:Nat}{o:Oper}(ho:ops[i]? =some o)(h:∀K':Act->World->Prop,Hid (∀a w,Ev P ops Q (i+1) a w->K' a w)->if Region.wanted o (yielded ops a.tmps)=true then Oper.wp P o a w K' Q else K' (a.put o.dst undef) w):Ev P ops Q i a w:=by
 have hlt:i<ops.size:=(Array.getElem?_eq_some_iff.1 ho).1;unfold Ev;rw[VO hlt];unfold wpOps;rw[ho];dsimp only;have:=h (wpOps P ops Q (List.range' (i+1) (ops.size-(i+1)))) (fun a w h=>h);split
 ·rename_i hw;rw[if_pos hw]at this;exact .inl this
 ·rename_i hw;rw[if_neg hw]at this;exact this
theorem Ev.take{i d:Nat}{o:Oper}(v:Value)(ho:ops[i]? =some o)(hd:o.dst=some d)(hw:Region.wanted o (yielded ops a.tmps)=true)(hv:(execOp a.eval o).run P w= .ok (.value v) w)
 (h:Ev P ops Q (i+1) (a.put (some d) v) w):Ev P ops Q i a w:=
 Ev.step ho fun K' hK=>by
  rw[if_pos hw];unfold Oper.wp;rw[hv];simp only[Oper.upon];rw[hd];exact hK.out _ _ h
theorem Ev.done{i:Nat}(hi:ops.size<=i)(h:Q .normal a w):Ev P ops Q i a w:=by
 unfold Ev;have:ops.size-i=0:=by omega
 rw[this];exact h
def Value.isUndef:Value->Bool
 | .tuple xs=>xs.size==0
 |_=>false
def idle(ops:Array Oper)(tmps:Array Value)(k:Nat):Bool:=match ops[k]? with
 |some o=> !(Region.wanted o (yielded ops tmps))&&match o.dst with
  |some d=>match tmps[d]? with
   |some v=>Value.isUndef v
   |none=>false
  |none=>true
 |none=>false
theorem XH{d:Nat}(h:(match a.tmps[d]? with|some v=>Value.isUndef v|none=>false)=true):a.put (some d) undef=a:=by
 cases hv:a.tmps[d]? with
 |none=>rw[hv]at h;simp at h
 |some v=>
  rw[hv]at h;dsimp only at h;have hu:v=undef:=by
   cases v with
   |tuple xs=>
    have hs:xs.size=0:=(by simpa[Value.isUndef]using h);have:xs=#[]:=Array.eq_empty_of_size_eq_zero hs;rw[this];rfl
   |_=>simp[Value.isUndef]at h
  obtain⟨hlt,he⟩:=Array.getElem?_eq_some_iff.1 hv;cases a with
  |mk tmps defers=>
   simp only[Act.put];congr;apply Array.ext
   ·simp
   ·intro i h1 h2;by_cases e:d=i
    ·subst e;rw[Array.getElem_setIfInBounds_self];rw[<-hu];exact he.symm
    ·rw[Array.getElem_setIfInBounds_ne _ e]
theorem Ev.pass{j:Nat}(m:Nat):∀{i:Nat},i+m=j->(List.range' i m).all (idle ops a.tmps)=true->Ev P ops Q j a w->Ev P ops Q i a w:=by
 induction m with
 |zero=>intro i hi _ h;have e:i=j:=by omega
        rw[e];exact h
 |succ m ih=>
  intro i hi hall h;rw[List.range'_succ,List.all_cons,Bool.and_eq_true]at hall;obtain⟨h1,h2⟩:=hall;have hrest:=ih (i:=i+1) (by omega) h2 h;unfold idle at h1;cases ho:ops[i]? with
  |none=>rw[ho]at h1;simp at h1
  |some o=>
   rw[ho]at h1;dsimp only at h1;rw[Bool.and_eq_true]at h1;have hw:Region.wanted o (yielded ops a.tmps)=false:=(by simpa using h1.1);refine Ev.step ho fun K' hK=>?_;rw[if_neg (by rw[hw];simp)];cases hd:o.dst with
   |none=>exact hK.out _ _ hrest
   |some d=>
    have h3:=h1.2;rw[hd]at h3;dsimp only at h3;rw[XH h3];exact hK.out _ _ hrest
end
section
variable {P:Program}{ops:Array Oper}{Q:Exit->Act->World->Prop}{a:Act}{w:World}
theorem Ev.tk(i d:Nat){o:Oper}(v:Value)(h:Ev P ops Q (i+1) (a.put (some d) v) w)(ho:ops[i]? =some o:=by rfl)(hd:o.dst=some d:=by rfl)
 (hw:Region.wanted o (yielded ops a.tmps)=true:=by kernel_rfl)(hv:(execOp a.eval o).run P w= .ok (.value v) w:=by go_simp):Ev P ops Q i a w:=Ev.take v ho hd hw hv h
end
open Go.Maps Go.BigFrame Go.Shelf Go.Proofs.Tryz
theorem bZ{k:AJ}(h:AW k=true):k.wfs:=fun i hi=>by
 have h1:=Jw h hi;have h2:=MH h hi;exact⟨I0 (by unfold small at h1;omega) (by unfold small at h1;omega),I0 (by unfold small at h2;omega) (by unfold small at h2;omega)⟩
theorem Vs{L:List UInt8}{p:List TD×List OD}(h:GQ L=some p):AW (Dd p.1 p.2)=true:=by
 unfold GQ at h;split at h
 ·exact(IM h).1
 ·cases h
theorem Sf{W w':World}{B:Nat}{p:List TD×List OD}{ta oa:Option Addr}{ca co:Nat}{lt:List Af}{lo:List Ae}(ok:AW (Dd p.1 p.2)=true)(ks:Cf w' B (.slice ta lt.length ca) (.slice oa lo.length co) lt lo)(hd:∀x∈lo,x.data.size<=maxLen)(h1:lt.length<=1048576)(h2:lo.length<=1048576)(sm:(Dd p.1 p.2).same (Dm ta ca oa co lt lo))(hb:Below w' w' W)(tab:Tf W):
 Calls prog 6 #[.agg #[.slice ta lt.length ca,.slice oa lo.length co]] W fun e w'=>e= .returned (.string (By (Dm ta ca oa co lt lo)))/\Below W W w':=
 KR (Dm ta ca oa co lt lo) W ((ks.below hb).at h1 h2 hd) (GH ks.o).1 (bZ ((Du sm).trans ok)) tab
theorem FQ.some{r:Option (List TD×List OD)}{p:List TD×List OD}{w w':World}{e:Ending}(h:FQ r w e w')(e1:r=Option.some p):FQ (Option.some p) w e w':=by rw[<-e1];exact h
theorem MJ(u:TypeId)(pv:Value)(a:Option Addr)(n cap:Nat)(w:World)(hb:1048576<n∨BytesAt w a n)(hT:Tf w)(hE:MR u pv w):
 Calls prog 3 #[.slice a n cap] w fun e w'=>e= .returned (.bool true)/\Below w w w':=by
 have HB:=hid hb;have HT:Hid (∀W,Below w w W->Tf W):=fun W h=>hT.below h;have HE:Hid (∀W,Below w w W->MR u pv W):=fun W h=>hE.below h;clear hb hT hE;go_enter func3,ntmps3
 go_wp2_with fail
 refine(aw a n cap w).mono ?_;rintro e w0 ⟨rfl,rfl⟩;by_cases hbig:1048576<n
 ·have e1:decide (1048576<n)=true:=decide_eq_true hbig;rw[e1];go_wp2;go_ret;exact⟨rfl,Below.refl _ _⟩
 have e1:decide (1048576<n)=false:=decide_eq_false hbig;rw[e1];clear e1;have HB0:=hid (HB.out.resolve_left hbig);have HN:Hid (n<=1048576):=hid (by omega);clear HB hbig;go_wp2_with fail
 refine(Vt a n cap w0 HN HB0).mono ?_;rintro e w1 ⟨lt,lo,g,ca,q,co,rfl,ks,kd,b1⟩;have n3:Na #[.slice g lt.length ca,.slice q lo.length co]:=⟨⟩;have n11:Nw (w1.alloc (.cells n3 27)):=⟨⟩;have b2:Below w1 w1 n11:=CY w1 _;have n14:Nv (.slice q lo.length co):=⟨⟩;have KS:Hid (Cf n11 w0 (.slice g lt.length ca) n14 lt lo):=hid (ks.below b2);have KF:=hid kd.F;have LB:Hid (Below w0 w0 n11):=hid (Ac b1 b2);have CB:Hid (Ai n11 w1 (.cells n3 27)):=hid (Ai.new w1 _);clear ks kd b1 b2;go_upto_region 4 with fail
 generalize (n11:World)=W2 at *;generalize w1.heap.size=C at *;obtain⟨L,eL,hL,hA⟩:=Xn (some ⟨g,0,none⟩) (some ⟨q,0,none⟩) ca co lt lo;have D0:Hid (Below W2 W2 W2):=hid (Below.refl _ _);have S1:Hid (∀W,Below W2 W2 W->Calls prog 6 #[.agg n3] W fun e w'=>e= .returned (.string (bytesOf L))/\Below W W w'):=hid (fun W h=>by rw[<-eL];exact KR (Dm (some ⟨g,0,none⟩) ca (some ⟨q,0,none⟩) co lt lo) W ((KS.out.below h).kat KF.out) (GH KS.out.o).1 KF.out.wf (HT W (Ac LB h)));have S2:Hid (∀W,Below W2 W2 W->Calls prog 8 #[.agg n3] W fun e w'=>e= .returned (.string (bytesOf L))/\Below W W w'):=hid (fun W h=>by rw[<-eL];exact Jn (Dm (some ⟨g,0,none⟩) ca (some ⟨q,0,none⟩) co lt lo) W ((KS.out.below h).kat KF.out) KF.out.wf);have S3:Hid (∀W,Below W2 W2 W->Calls prog 7 #[.string (bytesOf L)] W fun e w'=>FQ (GQ L) W e w'):=hid (fun W h=>Ft u pv L W (HE W (Ac LB h)) (by omega));have S4:Hid (∀W,Below W2 W2 W->Calls prog 9 #[.agg n3] W fun e w'=>e= .returned (.bool (AW (Dm (some ⟨g,0,none⟩) ca (some ⟨q,0,none⟩) co lt lo)))/\Below W W w'):=hid (fun W h=>JZ (Dm (some ⟨g,0,none⟩) ca (some ⟨q,0,none⟩) co lt lo) W ((KS.out.below h).kat KF.out) (GH KS.out.o).1 KF.out.wf);have EL:=hid eL;have HA:=hid hA;clear eL hL hA KS KF;obtain⟨k0,k1⟩:=CB.out.two;go_wp2_with fail
 refine(S1 _ D0).mono ?_;rintro e w3 ⟨rfl,h3⟩;have D3:=hid h3;clear h3 D0 k0 k1 S1;go_wp2_with fail
 refine(S3 _ D3).mono ?_;rintro e w4 hp;have HP:=hid hp;clear hp S3;have E8:Hid (∀args w,(callFunc 8 args).run prog w= .ok (.enter 8 args) w):=hid (enters_of func8 (by kernel_rfl) rfl);have E9:Hid (∀args w,(callFunc 9 args).run prog w= .ok (.enter 9 args) w):=hid (enters_of func9 (by kernel_rfl) rfl);have E6:Hid (∀args w,(callFunc 6 args).run prog w= .ok (.enter 6 args) w):=hid (enters_of func6 (by kernel_rfl) rfl);have DRAW:Hid (∀W,Below w0 w0 W->Calls prog 10 #[.slice a n cap] W fun e w'=>∃t:ByteArray,e= .returned (.string t)/\t.size<=499992/\Below W W w'):=hid (fun W h=>Vh a n cap W HN (HB0.out.below h));rcases HA with⟨ok,ea⟩|⟨ok,ea⟩
 ·have HP1:=hid (HP.out.some ea);obtain⟨ta,oa,ca',co',lt',lo',rfl,ks,_,hd,l1,l2,sm,h4⟩:=HP1.out;obtain⟨et,el⟩:=Wi sm;rw[EL.out]at et;have okD:=Vs ea;have n5:Na #[.slice ta lt'.length ca',.slice oa lo.length co']:=⟨⟩;have RK:Hid (∀W,Below w4 w4 W->Below w0 w0 W->Calls prog 6 #[.agg n5] W fun e w'=>e= .returned (.string (bytesOf L))/\Below W W w'):=hid (fun W h h'=>by
   have:=Sf okD ks hd l1 l2 sm h (HT W h');rw[et,el]at this;exact this)
  have b5:Below w4 w4 (w4.alloc (.cells n5 27)):=CY w4 _;have QB:=hid (Ai.new w4 (.cells n5 27));have D5:=hid (Ac (Ac D3 h4) b5);have B5:=hid b5;rw[el];rw[ok]at S4;clear ks hd l1 l2 sm et okD b5 h4 HP HP1 ea ok D3;go_upto_region 6 with fail
  generalize w4.alloc (.cells n5 27)=V at *;have BK:Hid (∀W,Below V V W->Ai W C (.cells n3 27)):=hid (fun W hW=>CB.out.below (Ac D5 hW));have BQ:Hid (∀W,Below V V W->Ai W w4 (.cells n5 27)):=hid (fun W hW=>QB.out.below hW);have LV:=hid (Ac LB D5);have DV:Hid (Below V V V):=hid (Below.refl _ _);have T2:Hid (∀W,Below V V W->Calls prog 8 #[.agg n3] W fun e w'=>∃v,e= .returned v/\(v= .string (bytesOf L)/\Below W W w')):=hid (fun W hW=>(S2 W (Ac D5 hW)).mono (by rintro e w' ⟨rfl,hb⟩;exact⟨_,rfl,rfl,hb⟩));have T4:Hid (∀W,Below V V W->Calls prog 9 #[.agg n3] W fun e w'=>∃v,e= .returned v/\(v= .bool true/\Below W W w')):=hid (fun W hW=>(S4 W (Ac D5 hW)).mono (by rintro e w' ⟨rfl,hb⟩;exact⟨_,rfl,rfl,hb⟩));have T5:Hid (∀W,Below V V W->Calls prog 6 #[.agg n5] W fun e w'=>∃v,e= .returned v/\(v= .string (bytesOf L)/\Below W W w')):=hid (fun W hW=>(RK W (Ac B5 hW) (Ac LV hW)).mono (by rintro e w' ⟨rfl,hb⟩;exact⟨_,rfl,rfl,hb⟩));generalize w4.heap.size=Q at *;clear S2 S4 RK CB QB D5 B5 LB EL el;go_cut[50] from 12 (fun v wc=>v= .bool false/\Below w0 w0 wc)
  case first=>
   clear DRAW HT HE HN HB0;refine Ev.region ?_;refine Ev.tk 0 23 (.string (bytesOf L)) ?_;simp only[ap,List.set];refine Ev.tk 1 24 (.agg n3) ?_ (hv:=by obtain⟨z0,z1⟩:=(BK _ DV).two;go_simp);simp only[ap,List.set];refine Ev.step rfl (fun K1 hK1=>?_);go_simp;refine(T2 _ DV).mono ?_;rintro e W1 ⟨_,rfl,rfl,hb⟩;have G1:=hid (Ac DV hb);refine hK1 _ _ ?_;clear hK1 K1 hb;try simp only[ap,List.set]
   refine Ev.tk 3 26 (.bool false) ?_;simp only[ap,List.set];refine Ev.tk 4 27 (.bool false) ?_;simp only[ap,List.set];refine Ev.tk 5 28 (.bool true) ?_;simp only[ap,List.set];refine Ev.tk 6 29 (.agg n3) ?_ (hv:=by obtain⟨z0,z1⟩:=(BK _ G1).two;go_simp);simp only[ap,List.set];refine Ev.step rfl (fun K1 hK1=>?_);go_simp;refine(T4 _ G1).mono ?_;rintro e W2 ⟨_,rfl,rfl,hb⟩;have G2:=hid (Ac G1 hb);refine hK1 _ _ ?_;clear hK1 K1 hb;try simp only[ap,List.set]
   refine Ev.tk 8 31 (.bool false) ?_;simp only[ap,List.set];refine Ev.tk 9 32 (.bool false) ?_;simp only[ap,List.set];refine Ev.tk 10 33 (.bool false) ?_;simp only[ap,List.set];refine Ev.tk 11 34 (.bool true) ?_;simp only[ap,List.set];refine Ev.tk 12 35 (.bool true) ?_;simp only[ap,List.set];refine Ev.tk 13 36 (.agg n5) ?_ (hv:=by obtain⟨z0,z1⟩:=(BQ _ G2).two;go_simp);simp only[ap,List.set];refine Ev.step rfl (fun K1 hK1=>?_);go_simp;refine(T5 _ G2).mono ?_;rintro e W3 ⟨_,rfl,rfl,hb⟩;have G3:=hid (Ac G2 hb);refine hK1 _ _ ?_;clear hK1 K1 hb;try simp only[ap,List.set]
   refine Ev.tk 15 38 (.string (bytesOf L)) ?_;simp only[ap,List.set];refine Ev.tk 16 39 (.bool false) ?_;simp only[ap,List.set];refine Ev.tk 17 40 (.bool false) ?_;simp only[ap,List.set];refine Ev.tk 18 41 (.pointer (some ⟨Q,1,none⟩)) ?_;simp only[ap,List.set];refine Ev.tk 19 42 (.slice oa lo.length co') ?_ (hv:=by obtain⟨z0,z1⟩:=(BQ _ G3).two;go_simp);simp only[ap,List.set];refine Ev.tk 20 43 (.int .i64 (lo.length:Nat)) ?_;simp only[ap,List.set];refine Ev.tk 21 44 (.pointer (some ⟨C,1,none⟩)) ?_;simp only[ap,List.set];refine Ev.tk 22 45 n14 ?_ (hv:=by obtain⟨z0,z1⟩:=(BK _ G3).two;go_simp);simp only[ap,List.set];refine Ev.tk 23 46 (.int .i64 (lo.length:Nat)) ?_;simp only[ap,List.set];refine Ev.tk 24 47 (.bool false) ?_;simp only[ap,List.set];refine Ev.tk 25 48 (.bool false) ?_;simp only[ap,List.set];refine Ev.tk 26 49 (.bool false) ?_;simp only[ap,List.set];refine Ev.tk 27 50 (.bool false) ?_;simp only[ap,List.set];refine Ev.done (Nat.le_of_eq (by rfl)) ?_;go_wp2_with fail
   go_meet;case rel=>exact⟨rfl,Ac LV G3⟩
  case rest=>
  obtain⟨rfl,cc⟩:=hcut;have CC:=hid cc;clear cc LV DV BK BQ T2 T4 E8 E9 E6;go_wp2_with fail
  refine(DRAW _ CC).mono ?_;rintro e w7 ⟨t,rfl,ht,h7⟩;have C7:=hid (Ac CC h7);clear h7 DRAW CC;obtain⟨T,eT⟩:∃T,T=t.data.toList:=⟨_,rfl⟩;obtain rfl:t=bytesOf T:=by rw[eT,DK]
  have lT:T.length<=499992:=by rw[Au]at ht;exact ht
  have U1:Hid (∀W,Below w0 w0 W->Calls prog 7 #[.string (bytesOf T)] W fun e w'=>FQ (GQ T) W e w'):=hid (fun W h=>Ft u pv T W (HE W h) (by omega));have U2:Hid (∀W,Calls prog 11 #[.string (bytesOf T)] W fun e w'=>ci (GQ T) W w' e):=hid (fun W=>by
   have h:=Hw T W (by omega);have e:KY T=GQ T:=by
    rw[Uf];unfold GQ;rw[if_pos (by omega)]
   rw[e]at h;exact h)
  clear ht lT eT;cases ea:GQ T with
  |some p=>
   have okD:=Vs ea;have TB:Hid (∀(ta oa:Option Addr) (ca co:Nat) (lt:List Af) (lo:List Ae),(Dd p.1 p.2).same (Dm ta ca oa co lt lo)->By (Dm ta ca oa co lt lo)=bytesOf T):=hid (fun _ _ _ _ _ _ hs=>QV ea hs);rw[ea]at U1 U2;have OKD:=hid okD;clear ea okD;go_wp2_with fail
   refine(U1 _ C7).mono ?_;rintro e w8 ⟨tb,ob,cb,db,l1,l2,rfl,ks,_,hd,n1,n2,sm,h8⟩;have et:=TB.out _ _ _ _ _ _ sm;have n6:Na #[.slice tb l1.length cb,.slice ob l2.length db]:=⟨⟩;have RK:Hid (∀W,Below w8 w8 W->Below w0 w0 W->Calls prog 6 #[.agg n6] W fun e w'=>e= .returned (.string (bytesOf T))/\Below W W w'):=hid (fun W h h'=>by
    have:=Sf OKD ks hd n1 n2 sm h (HT W h');rw[et]at this;exact this)
   have n15:Nw (w8.alloc (.cells n6 27)):=⟨⟩;have b8:Below w8 w8 n15:=CY w8 _;have RK8:Hid (∀W,Below (n15:World).heap.size n15 W->Below w0 w0 W->Calls prog 6 #[.agg n6] W fun e w'=>e= .returned (.string (bytesOf T))/\Below W W w'):=hid (fun W h h'=>RK W (Ac b8 h) h');have Q8:=hid (Ai.new w8 (.cells n6 27));have C8:=hid (Ac (Ac C7 h8) b8);clear ks hd n1 n2 sm et h8 b8 C7 TB OKD U1 RK;go_wp2_with fail
   generalize w8.alloc (.cells n6 27)=V8 at *;generalize w8.heap.size=X8 at *;refine(U2 _).mono ?_;rintro e w9 ⟨tc,oc,cc,dc,m1,m2,rfl,_,_,h9⟩;have n12:No (.cells #[.slice tc m1.length cc,.slice oc m2.length dc] 27):=⟨⟩;have b9:Below w9 w9 (w9.alloc n12):=CY w9 _;have h10:=Ac h9 b9;have Q9:=hid (Q8.out.below h10);have C9:=hid (Ac C8 h10);have B9:=hid h10;clear h9 b9 h10 Q8 C8 U2;go_upto_region 11 with fail
   generalize w9.alloc n12=V9 at *;have RK9:=hid (RK8.out _ B9 C9);obtain⟨z0,z1⟩:=Q9.out.two;clear RK8 B9;go_wp2_with fail
   refine RK9.out.mono ?_;rintro e w10 ⟨rfl,hx⟩;have CX:=hid (Ac C9 hx);clear hx RK9 z0 z1;go_wp2;go_ret;exact⟨rfl,CX⟩
  |none=>
   rw[ea]at U1 U2;clear ea;go_wp2_with fail
   refine(U1 _ C7).mono ?_;rintro e w8 ⟨rfl,h8⟩;have n8:No (.cells #[.slice none 0 0,.slice none 0 0] 27):=⟨⟩;have C8:=hid (Ac (Ac C7 h8) ((Below.refl _ w8).alloc nr n8));clear h8 C7 U1;go_wp2_with fail
   generalize w8.alloc n8=V8 at *;refine(U2 _).mono ?_;rintro e w9 ⟨rfl,h9⟩;have C9:=hid (Ac (Ac C8 h9) ((Below.refl _ w9).alloc nr n8));clear h9 C8 U2;go_wp2;go_ret;exact⟨rfl,C9⟩
 ·have HP1:=hid (show FQ none w3 e w4 from by have h:=HP.out;rw[ea]at h;exact h);obtain⟨b,eb,rfl,h4⟩:∃b:Bool,b=false/\e= .returned (.tuple #[.agg #[.slice none 0 0,.slice none 0 0],.bool b])/\Below w3 w3 w4:=⟨false,rfl,HP1.out.1,HP1.out.2⟩;have EO:=hid eb;have n9:No (.cells #[.slice none 0 0,.slice none 0 0] 27):=⟨⟩;have b5:Below w4 w4 (w4.alloc n9):=CY w4 _;have QB:=hid (Ai.new w4 n9);have D5:=hid (Ac (Ac D3 h4) b5);rw[ok,<-eb]at S4;clear eb b5 h4 HP HP1 ea ok D3;go_upto_region 6 with fail
  generalize w4.alloc n9=V at *;have n4:Na #[.slice g lt.length ca,.slice q lo.length co]:=⟨⟩;have BK:Hid (∀W,Below V V W->Ai W C (.cells n4 27)):=hid (fun W hW=>CB.out.below (Ac D5 hW));have BQ:Hid (∀W,Below V V W->Ai W w4 n9):=hid (fun W hW=>QB.out.below hW);have LV:=hid (Ac LB D5);have DV:Hid (Below V V V):=hid (Below.refl _ _);have T2:Hid (∀W,Below V V W->Calls prog 8 #[.agg n4] W fun e w'=>∃v,e= .returned v/\(v= .string (bytesOf L)/\Below W W w')):=hid (fun W hW=>(S2 W (Ac D5 hW)).mono (by rintro e w' ⟨rfl,hb⟩;exact⟨_,rfl,rfl,hb⟩));have T4:Hid (∀W,Below V V W->Calls prog 9 #[.agg n4] W fun e w'=>∃v,e= .returned v/\(v= .bool b/\Below W W w')):=hid (fun W hW=>(S4 W (Ac D5 hW)).mono (by rintro e w' ⟨rfl,hb⟩;exact⟨_,rfl,rfl,hb⟩));generalize w4.heap.size=Q at *;clear S2 S4 CB QB D5 LB EL;go_cut[50] from 12 (fun v wc=>v= .bool false/\Below w0 w0 wc)
  case first=>
   clear DRAW HT HE HN HB0;refine Ev.region ?_;refine Ev.tk 0 23 (.string (bytesOf L)) ?_;simp only[ap,List.set];refine Ev.tk 1 24 (.agg n4) ?_ (hv:=by obtain⟨z0,z1⟩:=(BK _ DV).two;go_simp);simp only[ap,List.set];refine Ev.step rfl (fun K1 hK1=>?_);go_simp;refine(T2 _ DV).mono ?_;rintro e W1 ⟨_,rfl,rfl,hb⟩;have G1:=hid (Ac DV hb);refine hK1 _ _ ?_;clear hK1 K1 hb;try simp only[ap,List.set]
   refine Ev.tk 3 26 (.bool false) ?_;simp only[ap,List.set];refine Ev.tk 4 27 (.bool false) ?_;simp only[ap,List.set];refine Ev.tk 5 28 (.bool b) ?_;simp only[ap,List.set];refine Ev.tk 6 29 (.agg n4) ?_ (hv:=by obtain⟨z0,z1⟩:=(BK _ G1).two;go_simp);simp only[ap,List.set];refine Ev.step rfl (fun K1 hK1=>?_);go_simp;refine(T4 _ G1).mono ?_;rintro e W2 ⟨_,rfl,rfl,hb⟩;have G2:=hid (Ac G1 hb);refine hK1 _ _ ?_;clear hK1 K1 hb;try simp only[ap,List.set]
   refine Ev.tk 8 31 (.bool false) ?_;simp only[ap,List.set];refine Ev.tk 9 32 (.bool false) ?_;simp only[ap,List.set];refine Ev.tk 10 33 (.bool false) ?_;simp only[ap,List.set];refine Ev.tk 11 34 (.bool b) ?_;simp only[ap,List.set];refine Ev.tk 12 35 (.bool b) ?_;simp only[ap,List.set];refine Ev.pass (j:=26) 13 rfl (by have eo:=EO.out;clear EO;subst eo;show(_:Bool)=true;kernel_rfl) ?_;refine Ev.tk 26 49 (.bool false) ?_ (hv:=by have eo:=EO.out;clear EO;subst eo;go_simp);simp only[ap,List.set];refine Ev.tk 27 50 (.bool false) ?_;simp only[ap,List.set];refine Ev.done (Nat.le_of_eq (by rfl)) ?_;go_wp2_with fail
   go_meet;case rel=>exact⟨rfl,Ac LV G2⟩
  case rest=>
  obtain⟨rfl,cc⟩:=hcut;have CC:=hid cc;clear cc LV DV BK BQ T2 T4 E8 E9 E6;go_wp2_with fail
  refine(DRAW _ CC).mono ?_;rintro e w7 ⟨t,rfl,ht,h7⟩;have C7:=hid (Ac CC h7);clear h7 DRAW CC;obtain⟨T,eT⟩:∃T,T=t.data.toList:=⟨_,rfl⟩;obtain rfl:t=bytesOf T:=by rw[eT,DK]
  have lT:T.length<=499992:=by rw[Au]at ht;exact ht
  have U1:Hid (∀W,Below w0 w0 W->Calls prog 7 #[.string (bytesOf T)] W fun e w'=>FQ (GQ T) W e w'):=hid (fun W h=>Ft u pv T W (HE W h) (by omega));have U2:Hid (∀W,Calls prog 11 #[.string (bytesOf T)] W fun e w'=>ci (GQ T) W w' e):=hid (fun W=>by
   have h:=Hw T W (by omega);have e:KY T=GQ T:=by
    rw[Uf];unfold GQ;rw[if_pos (by omega)]
   rw[e]at h;exact h)
  clear ht lT eT;cases ea:GQ T with
  |some p=>
   have okD:=Vs ea;have TB:Hid (∀(ta oa:Option Addr) (ca co:Nat) (lt:List Af) (lo:List Ae),(Dd p.1 p.2).same (Dm ta ca oa co lt lo)->By (Dm ta ca oa co lt lo)=bytesOf T):=hid (fun _ _ _ _ _ _ hs=>QV ea hs);rw[ea]at U1 U2;have OKD:=hid okD;clear ea okD;go_wp2_with fail
   refine(U1 _ C7).mono ?_;rintro e w8 ⟨tb,ob,cb,db,l1,l2,rfl,ks,_,hd,n1,n2,sm,h8⟩;have et:=TB.out _ _ _ _ _ _ sm;have n7:Na #[.slice tb l1.length cb,.slice ob l2.length db]:=⟨⟩;have RK:Hid (∀W,Below w8 w8 W->Below w0 w0 W->Calls prog 6 #[.agg n7] W fun e w'=>e= .returned (.string (bytesOf T))/\Below W W w'):=hid (fun W h h'=>by
    have:=Sf OKD ks hd n1 n2 sm h (HT W h');rw[et]at this;exact this)
   have n16:Nw (w8.alloc (.cells n7 27)):=⟨⟩;have b8:Below w8 w8 n16:=CY w8 _;have RK8:Hid (∀W,Below (n16:World).heap.size n16 W->Below w0 w0 W->Calls prog 6 #[.agg n7] W fun e w'=>e= .returned (.string (bytesOf T))/\Below W W w'):=hid (fun W h h'=>RK W (Ac b8 h) h');have Q8:=hid (Ai.new w8 (.cells n7 27));have C8:=hid (Ac (Ac C7 h8) b8);clear ks hd n1 n2 sm et h8 b8 C7 TB OKD U1 RK;go_wp2_with fail
   generalize w8.alloc (.cells n7 27)=V8 at *;generalize w8.heap.size=X8 at *;refine(U2 _).mono ?_;rintro e w9 ⟨tc,oc,cc,dc,m1,m2,rfl,_,_,h9⟩;have n13:No (.cells #[.slice tc m1.length cc,.slice oc m2.length dc] 27):=⟨⟩;have b9:Below w9 w9 (w9.alloc n13):=CY w9 _;have h10:=Ac h9 b9;have Q9:=hid (Q8.out.below h10);have C9:=hid (Ac C8 h10);have B9:=hid h10;clear h9 b9 h10 Q8 C8 U2;go_upto_region 11 with fail
   generalize w9.alloc n13=V9 at *;have RK9:=hid (RK8.out _ B9 C9);obtain⟨z0,z1⟩:=Q9.out.two;clear RK8 B9;go_wp2_with fail
   refine RK9.out.mono ?_;rintro e w10 ⟨rfl,hx⟩;have CX:=hid (Ac C9 hx);clear hx RK9 z0 z1;go_wp2;go_ret;exact⟨rfl,CX⟩
  |none=>
   rw[ea]at U1 U2;clear ea;go_wp2_with fail
   refine(U1 _ C7).mono ?_;rintro e w8 ⟨rfl,h8⟩;have n10:No (.cells #[.slice none 0 0,.slice none 0 0] 27):=⟨⟩;have C8:=hid (Ac (Ac C7 h8) ((Below.refl _ w8).alloc nr n10));clear h8 C7 U1;go_wp2_with fail
   generalize w8.alloc n10=V8 at *;refine(U2 _).mono ?_;rintro e w9 ⟨rfl,h9⟩;have C9:=hid (Ac (Ac C8 h9) ((Below.refl _ w9).alloc nr n10));clear h9 C8 U2;go_wp2;go_ret;exact⟨rfl,C9⟩
open Go.ChangeShapes Go.WideShapes Go.ChangeAt Go.Joins
theorem Tryz.ownKnob:Go.ownKnob prog.godebug=none:=by kernel_rfl
theorem Tryz.laidOut:laidOutB prog=true:=by kernel_rfl
theorem bv{w:World}{b o:Nat}{v:Value}(h:w.cell? ⟨b,o,none⟩=some v):b<w.heap.size:=by
 apply Nat.lt_of_not_le;intro hle;have:w.heap[b]? =none:=Array.getElem?_eq_none hle;simp[World.cell?,this]at h
theorem Tryz.cells5:prog.cellsOf 5=1:=by kernel_rfl
theorem Sr{H:Type}{enc:TypeId×Value->H}{W:World}{base:Nat}{v1:Value}{d1:DataW H}{p1:List MemPlace}(hval:Value.okWide prog W .any base 22 v1)(h1:DataW.Trod enc prog W 0 (fun _=>true) true 22 v1 d1 p1):
 ∃a n cap,v1= .slice a n cap/\BytesAt W a n:=by
 obtain⟨a1,len,cap,rfl⟩:=okWide_slice underlying22 hval;obtain⟨fuel,hf⟩:=h1;rcases open_ints underlying22 underlying5 Tryz.cells5 hf with⟨hcs,hx⟩|⟨a,len',cap',zs,hcs,_,hl,hm,hz,hx,hcell,hwz⟩
 ·simp[Value.cells]at hcs;obtain⟨rfl,rfl,rfl⟩:=hcs;exact⟨none,0,0,rfl,fun h=>by omega⟩
 ·simp[Value.cells]at hcs;obtain⟨rfl,rfl,rfl⟩:=hcs;simp only[if_true]at hz;obtain⟨ab,ao,spot⟩:=a;refine⟨_,_,_,rfl,fun h0=>?_⟩;have hspot:spot=none:=by simpa[Addr.add]using World.cell?_spot (hcell 0 (by omega))
  subst hspot;have h00:=hcell 0 (by omega);rw[Addr.add_lit]at h00;refine⟨ab,ao,rfl,bv h00,fun i hi=>?_⟩;have hi':=hcell i (by omega);rw[Addr.add_lit]at hi';have hb:=range_u8 hwz i;rw[List.getD_eq_getElem?_getD]at hi';exact⟨_,hi',hb.1,by omega⟩
end Go.Proofs.YtblapfnglojgjaaGreatDoor
