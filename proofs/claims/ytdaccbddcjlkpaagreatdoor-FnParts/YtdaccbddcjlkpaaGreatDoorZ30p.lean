import Derived.Test.YtdaccbddcjlkpaaGreatDoorRows
import Derived.ChangeSame
import Derived.ChangeVars
import Derived.JoinedOf
import Derived.LaidLaws
import Derived.LaidHandle
import Derived.Stop.LaidErr
import Derived.Lib.LaidTab
import Derived.Deep.DeepLaidRun
import Derived.SevenTiedAt
import Derived.Lib.SmallJoins
import Derived.OpenShut
import Derived.ShutString
import Derived.ChangeOld
import Derived.ChangeMaps5
import Derived.Deep.SlicePairs
import Derived.Test.YtdaccbddcjlkpaaGreatDoorZ29p
set_option maxRecDepth 100000
set_option maxHeartbeats 16000000
namespace Go.Proofs.YtdaccbddcjlkpaaGreatDoor
open Go Go.RowKit Go.Deep Go.Maps Go.BigFrame Go.Shelf Go.Proofs.Tryz
open Go.Value renaming slice→qV,pointer→pT,agg→qY,bool→qU,int→iT
open Go.IntKind renaming i64→qH
open Go.Obj renaming cells→qG
open Go.Ending renaming returned→rT
open _root_.List renaming set→qF
open _root_.Nat renaming le_refl→jP,lt_of_lt_of_le→qv
open Go.World renaming ownsRow→qq
open Go renaming World→qM
open Go.RowKit renaming Below→qN
variable {w W:qM}{T:List Ae}{O:List Ab}{ta oa xa va:Option Addr}{ca co B xc c vc:Nat}
def bF(w:qM)(T:List Ae)(O:List Ab)(ans:List (Int×ByteArray))(p x:Value)(wc:qM):Prop:=
 ∃(P:Nat) (ta oa:Option Addr) (ca co B:Nat) (xa:Option Addr) (xc:Nat),p= pT P/\x= qV xa ans.length xc/\Ag wc P (qG #[qV ta T.length ca,qV oa O.length co] 27)/\Ff wc B ta oa ca co T O/\Do wc w (qV xa ans.length xc) ans/\qN w w wc
theorem Tf{ans:List (Int×ByteArray)}(k:Ff W B ta oa ca co T O)(o:Do W w (qV xa ans.length xc) ans)(E:qN w w W):
 bF w T O ans (pT (W)) (qV xa ans.length xc) (W.alloc (qG #[qV ta T.length ca,qV oa O.length co] 27)):=by
 have b:=Bg W (qG #[qV ta T.length ca,qV oa O.length co] 27);exact⟨W,ta,oa,ca,co,B,xa,xc,rfl,rfl,Ag.new _ _,k.below b,o.below b,Af E b⟩
theorem Ts{P:Nat}{x y:Value}{ans:List (Int×ByteArray)}(Z:Ag W P (qG #[x,y] 27))(hP:w.heap.size<=P)(hB:P<B)(k:Ff W B ta oa ca co T O)(o:Do W w (qV xa ans.length xc) ans)(E:qN w w W):
 bF w T O ans (pT P) (qV xa ans.length xc) ((W.setCell ⟨P,0,none⟩ (qV ta T.length ca)).setCell ⟨P,1,none⟩ (qV oa O.length co)):=
 ⟨P,ta,oa,ca,co,B,xa,xc,rfl,rfl,(Z.jB (i:=0) _).jB (i:=1) _,(k.set hB).set hB,(o.set Z qX).set (Z.jB _) qX,(E.setCell (p:=⟨P,0,none⟩) hP _).setCell (p:=⟨P,1,none⟩) hP _⟩
theorem Dh.form{a:Option Addr}{l:List Aj}(h:Dh w B (qV a l.length c) l):(a=none/\c=0)∨∃g,a=some ⟨g,0,none⟩:=by
 rcases h.2 with⟨hv,_⟩|⟨g,cap,cur,hv,_⟩
 ·simp only[Value.slice.injEq]at hv;exact .inl ⟨hv.1,hv.2.2⟩
 ·simp only[Value.slice.injEq]at hv;exact .inr ⟨g,hv.1⟩
theorem slice_head{L:List Aj}(h:Dh w B (qV va L.length vc) L)(hc:c<=vc)(W:qM):(Instr.slice 28 (qV va L.length vc) none (some (iT qH c)) none).run prog W= .ok (qV va c vc) W:=by
 have hu:=underlying28;have hc':(c:Int)<=(vc:Int):=by omega
 have h0:(0:Int)<=(c:Int):=by omega
 rcases h.form with⟨rfl,rfl⟩|⟨g,rfl⟩
 ·have:c=0:=by omega
  subst this;simp[go_sem,hu]
 ·simp[go_sem,hu,hc',h0]
theorem VJ{n:Nat}(hc:c<=n)(W:qM):(Instr.slice 28 (qV va n vc) (some (iT qH c)) none none).run prog W= .ok (qV (if vc=c then va else va.map (·.add (c*10))) (n-c) (vc-c)) W:=by
 have hu:=underlying28;have hc':(c:Int)<=(n:Int):=by omega
 have h0:(0:Int)<=(c:Int):=by omega
 simp[go_sem,hu,hc',h0]
def dH(w:qM)(T:List Ae)(O:List Ab)(ans:List (Int×ByteArray))(W:qM)(v:Value)(w':qM):Prop:=
 ∃(ta oa:Option Addr) (ca co B:Nat) (xa:Option Addr) (xc:Nat),v= .tuple #[qY #[qV ta T.length ca,qV oa O.length co],qV xa ans.length xc]/\Ff w' B ta oa ca co T O/\W.heap.size<=B/\Do w' w (qV xa ans.length xc) ans/\qN w w w'/\qN W W w'
theorem WS{ans:List (Int×ByteArray)}{f:Nat}{args:Array Value}(hs:w.heap.size<=W.heap.size)(hW:qN w w W)(h:Calls prog f args W (TJ W T O ans)):Calls prog f args W fun e w'=>∃v,e= rT v/\dH w T O ans W v w':=
 h.mono fun e w' ⟨ta,oa,ca,co,v,he,k,o,b⟩=>by
  obtain⟨xa,xc,rfl⟩:=o.shape;exact⟨_,he,ta,oa,ca,co,_,xa,xc,rfl,k,jP _,o.base hs,Af hW b,b⟩
theorem Vq(E:Nat->Addr)(a:Option Addr)(n cap:Nat)(w:qM)(hb:1048576<n∨BytesAt w a n)(hv:Mp w E):
 Calls prog 3 #[qV a n cap] w fun e w'=>e= rT (qU true)/\qN w w w':=by
 have HB:=qC hb;have HV:=qC hv;clear hb hv;go_enter func3,ntmps3
 go_wp2_with fail
 refine(bM a n cap w).mono ?_;rintro e w0 ⟨rfl,rfl⟩;by_cases hbig:1048576<n
 ·have e1:decide (1048576<n)=true:=decide_eq_true hbig;rw[e1];go_wp2;go_ret;exact⟨rfl,Below.refl _ _⟩
 have e1:decide (1048576<n)=false:=decide_eq_false hbig;rw[e1];clear e1;go_wp2_with fail
 refine(Tl a n cap w0 qQ (HB.out.resolve_left hbig)).mono ?_;rintro e w1 ⟨lt,lo,g,ca,q,co,va,vc,L,rfl,ks,kd,ln,rd,b1⟩;have b2:qN w1 w1 (w1.alloc (qG #[qV g lt.length ca,qV q lo.length co] 27)):=Bg w1 _;obtain⟨c,ec⟩:∃c,c=n%(L.length+1):=⟨_,rfl⟩;have hc:c<=L.length:=by have:=Nat.mod_lt n (show 0<L.length+1 by omega);omega
 have kr:=(ks.below b2).kref kd.F (Dj (ks.below b2).o).1;have st:=(rd.below b2).steps;obtain⟨T1,O1,xs,T',O',ys,tx,rr,rn,ri,rs,ko⟩:=Zn kr kd.F (HV.out.below (Af b1 b2)) va L.length vc c (Ia L) qQ st hc;obtain⟨zs,ez⟩:∃zs,zs=xs++ys:=⟨_,rfl⟩;rw[<-ez]at rn ri rs;have EZ:=qC ez;obtain⟨ob,hob⟩:∃ob,ob=okL lt lo:=⟨_,rfl⟩;rw[<-hob]at rr ri rs ko;have HC:=qC hc;have EC:=qC ec;have LN:=qC ln;have OB:=qC hob;have RR:=qC rr;have RI:=qC ri;have RS:=qC rs;have KO:=qC ko;have RN:=qC rn;have n1:Na #[qV g lt.length ca,qV q lo.length co]:=⟨⟩;have n7:Nw (w1.alloc (qG n1 27)):=⟨⟩;have KR:Hid (∀W,qN (n7:qM).heap.size n7 W->IU W (Df (some ⟨g,0,none⟩) ca (some ⟨q,0,none⟩) co lt lo) lt lo):=qC (fun W hW=>kr.below hW);have ST:Hid (∀W,qN (n7:qM).heap.size n7 W->Gs W va L.length (Ia L)):=qC (fun W hW=>st.below hW);have VU:Hid (∀W,qN (n7:qM).heap.size n7 W->Mp W E):=qC (fun W hW=>(HV.out.below (Af b1 b2)).below hW);have VC:=qC (Dj rd.row).1;have RD:=qC rd;have LU:=qC (Af b1 b2);have BK0:=qC (Ag.new w1 (qG n1 27));clear ks kd ln rd b1 b2 HB HV hbig ec hc kr st rr ri rs ko rn hob ez;go_upto_region 4 with fail
 generalize (n7:qM)=U at *;generalize w1.heap.size=P at *;obtain⟨k0,k1⟩:=BK0.out.two;go_wp2_with fail
 refine(RI U (Below.refl _ _)).mono ?_;rintro e w2 ⟨ta,oa,ca',co',xa,xc,rfl,tn,_,an,h2⟩;have n3:Na #[qV ta T'.length ca',qV oa O'.length co']:=⟨⟩;have b3:qN w2 w2 (w2.alloc (qG n3 27)):=Bg w2 _;have D3:=qC (Af h2 b3);have TN:=qC (fun W hW=>tn W (Af b3 hW));have AN:=qC (an.below b3);have BN0:=qC (Ag.new w2 (qG n3 27));clear tn an h2 b3 k0 k1 RI;go_upto_region 5 with fail
 generalize w2.alloc (qG n3 27)=w3 at *;generalize w2.heap.size=Q at *;obtain⟨k0,k1⟩:=(BK0.out.below D3).two;go_wp2_with fail
 refine(RS w3 D3).mono ?_;rintro e w4 ⟨ta2,oa2,ca2,co2,ya,yc,rfl,tm,_,am,h4⟩;have n2:Na #[qV ta2 T'.length ca2,qV oa2 O'.length co2]:=⟨⟩;have b5:qN w4 w4 (w4.alloc (qG n2 27)):=Bg w4 _;have D5:=qC (Af D3 (Af h4 b5));have XM:=qC (fun W hW=>tm W (Af b5 hW));have XN:=qC (fun W hW=>TN W (Af (Af h4 b5) hW));have AM:=qC (am.below b5);have AN5:=qC (AN.out.below (Af h4 b5));have BN5:=qC (BN0.out.below (Af h4 b5));have BM5:=qC (Ag.new w4 (qG n2 27));clear tm am h4 b5 k0 k1 RS TN AN BN0;go_upto_region 6 with fail
 generalize w4.alloc (qG n2 27)=V at *;generalize w4.heap.size=R at *;have BK:Hid (∀W,qN V V W->Ag W P (qG n1 27)):=qC (fun W hW=>(BK0.out.below D5).below hW);have BN:Hid (∀W,qN V V W->Ag W Q (qG n3 27)):=qC (fun W hW=>BN5.out.below hW);have BM:Hid (∀W,qN V V W->Ag W R (qG n2 27)):=qC (fun W hW=>BM5.out.below hW);have XK:Hid (∀W,qN V V W->Calls prog 9 #[qY n1] W fun e w'=>∃v,e= rT v/\(v= qU ob/\qN W W w')):=qC (fun W hW=>KO W (Af D5 hW));have DR:Hid (qN V V V.drew):=qC (Below.refl V V).drew;clear BK0 BN5 BM5 KO;have E8:Hid (∀args w,(callFunc 8 args).run prog w= .ok (.enter 8 args) w):=qC (enters_of func8 kR rfl);have E9:Hid (∀args w,(callFunc 9 args).run prog w= .ok (.enter 9 args) w):=qC (enters_of func9 kR rfl);refine Am 17 (fun W=>qN V V W) kR ?_;refine tr 0 35 (qV xa zs.length xc) DR ?_;refine tr 1 36 (iT qH (zs.length:Nat)) DR ?_;refine tr 2 37 (qV ya zs.length yc) DR ?_;refine tr 3 38 (iT qH (zs.length:Nat)) DR ?_;refine tr 4 39 (qU false) DR ?_;refine tr 5 40 (qU false) DR ?_;refine tr 6 41 (qY n3) DR ?_ (hy:=fun W h=>by obtain⟨z0,z1⟩:=(BN W h).two;go_simp);refine tr 8 43 (qY n2) DR ?_ (hy:=fun W h=>by obtain⟨z0,z1⟩:=(BM W h).two;go_simp);refine Ac (i:=7) kR rfl ?_;intro K hK;refine An qK 8 _ _ qK E8 _ qK (some 42) qK _ (XN _ DR) ?_;rintro v w7 ⟨rfl,hb⟩;have D1:=qC (Af DR hb);refine hK _ _ (fun _=>D1) ?_;clear hK K hb;simp only[ap,qF];refine Ac (i:=9) kR rfl ?_;intro K hK;refine An qK 8 _ _ qK E8 _ qK (some 44) qK _ (XM _ D1) ?_;rintro v w7 ⟨rfl,hb⟩;have D2:=qC (Af D1 hb);refine hK _ _ (fun _=>D2) ?_;clear hK K hb;simp only[ap,qF];refine tr 10 45 (qU false) D2 ?_;refine tr 11 46 (qU false) D2 ?_;refine tr 12 47 (qU false) D2 ?_;refine tr 13 48 (qY n1) D2 ?_ (hy:=fun W h=>by obtain⟨z0,z1⟩:=(BK W h).two;go_simp);refine Ac (i:=14) kR rfl ?_;intro K hK;refine An qK 9 _ _ qK E9 _ qK (some 49) qK _ (XK _ D2) ?_;rintro v w7 ⟨rfl,hb⟩;have D3:=qC (Af D2 hb);refine hK _ _ (fun _=>D3) ?_;clear hK K hb;simp only[ap,qF];refine tr 15 50 (qU (!ob)) D3 ?_;refine tr 16 51 (qU (!ob)) D3 ?_;refine Ai kR ?_ _;cases ob with
 |false=>
  have DX:=qC D3.out.drew;go_upto_region 7 with fail
  refine Am 13 (fun W=>qN V V W) kR ?_;refine tr 0 52 (qV xa zs.length xc) DX ?_;refine tr 1 53 (iT qH (zs.length:Nat)) DX ?_;refine tr 2 54 (qV ya zs.length yc) DX ?_;refine tr 3 55 (iT qH (zs.length:Nat)) DX ?_;refine tr 4 56 (qU true) DX ?_;refine tr 5 57 (qU true) DX ?_;refine tr 6 58 (qY n3) DX ?_ (hy:=fun W h=>by obtain⟨z0,z1⟩:=(BN W h).two;go_simp);refine tr 8 60 (qY n2) DX ?_ (hy:=fun W h=>by obtain⟨z0,z1⟩:=(BM W h).two;go_simp);refine Ac (i:=7) kR rfl ?_;intro K hK;refine An qK 8 _ _ qK E8 _ qK (some 59) qK _ (XN _ DX) ?_;rintro v w7 ⟨rfl,hb⟩;have G1:=qC (Af DX hb);refine hK _ _ (fun _=>G1) ?_;clear hK K hb;simp only[ap,qF];refine Ac (i:=9) kR rfl ?_;intro K hK;refine An qK 8 _ _ qK E8 _ qK (some 61) qK _ (XM _ G1) ?_;rintro v w7 ⟨rfl,hb⟩;have G2:=qC (Af G1 hb);refine hK _ _ (fun _=>G2) ?_;clear hK K hb;simp only[ap,qF];refine tr 10 62 (qU true) G2 ?_;refine tr 11 63 (qU true) G2 ?_;refine tr 12 2 (qU true) G2 ?_;refine Ai kR ?_ _;go_wp2;go_ret;exact⟨rfl,Af LU (Af D5 G2)⟩
 |true=>
  obtain⟨r1,ok1,r2,ok2,etx⟩:=RR.out rfl;have R1:=qC r1;have R2:=qC r2;have OK1:=qC ok1;have ET:=qC etx;have OK2:=qC ok2;clear r1 ok1 r2 ok2 etx RR;have V0:=qC D3.out;have sL:wrap64 ((L.length:Int)+1)=(L.length:Int)+1:=by have:=LN.out;unfold wrap64;omega
  have nL:¬((L.length:Int)+1=0):=by omega
  have cE:(n:Int)%((L.length:Int)+1)=(c:Int):=by rw[EC.out];simp
  go_upto_region 9 with fail
  have CE:=qC cE;clear sL nL cE;have DW:Hid (qN U U w7):=qC (Af D5 V0);have CALL:Hid (∀W,qN w7 w7 W->Calls prog 6 #[qY n1,qV va c vc] W fun e w'=>∃v,e= rT v/\dH w7 T1 O1 xs W v w'):=qC (fun W hW=>by
   have h:=JM E (Df (some ⟨g,0,none⟩) ca (some ⟨q,0,none⟩) co lt lo) lt T1 lo O1 va c vc (Ia L) xs W (KR W (Af DW hW)) (VU W (Af DW hW)) OB.out.symm (by have:=HC.out;have:=LN.out;omega) ((ST W (Af DW hW)).head HC) R1.out;exact WS hW.size hW h)
  have HE00:Hid (qN w7 w7 w7.drew):=qC (Below.refl _ _).drew;have E6:Hid (∀args w,(callFunc 6 args).run prog w= .ok (.enter 6 args) w):=qC (enters_of func6 kR rfl);have HS1:Hid (∀w,(Instr.slice 28 (qV va L.length vc) none (some (iT qH c)) none).run prog w= .ok (qV va c vc) w):=qC (slice_head RD.out.row (Nat.le_trans HC VC));go_cut[10,11] (fun p x wc=>bF w7 T1 O1 xs p x wc)
  case first=>
   refine Am 10 (fun W=>qN w7 w7 W) kR ?_;refine tr 0 71 (qY n1) HE00 ?_ (hy:=fun W h=>by obtain⟨z0,z1⟩:=((BK _ V0).below h).two;go_simp);refine tr 1 72 (qV va L.length vc) HE00 ?_;refine tr 2 73 (iT qH c) HE00 ?_ (hy:=fun W h=>by have z:=CE.out;go_simp);refine tr 3 74 (qV va c vc) HE00 ?_ (hy:=fun W h=>by have hs1:=HS1.out;go_simp);have n4:No (qG #[qV none 0 0,qV none 0 0] 27):=⟨⟩;have HE1:=qC (HE00.out.alloc HE00.out.size n4);have ZB:=qC (Ag.new w7.drew n4);have sV:w7.heap.size<=w7.drew.heap.size:=jP _;have sZ:w7.drew.heap.size<(w7.drew.alloc n4).heap.size:=ZB.out.lt;generalize w7.drew=WD at *;refine Cd (i:=4) (j:=8) kR rfl rfl ?_ ?_
   ·intro K hK;refine Ay qK 6 _ _ _ qK E6 _ _ qK qK (some 75) qK _ (CALL _ HE00) ?_;rintro v w8 ⟨ta3,oa3,ca3,co3,B3,xa3,xc3,rfl,k3,l3,o3,e3,hb3⟩;have K3:=qC k3;have O3:=qC o3;have E3:=qC e3;have L3:=qC l3;skip;refine hK _ _ (fun _=>e3) ?_;clear hK K k3 l3 o3 e3 hb3;simp only[ap,qF];have n8:Na #[qV ta3 T1.length ca3,qV oa3 O1.length co3]:=⟨⟩;refine tr 5 70 (.tuple #[qY n8,qV xa3 xs.length xc3]) E3 ?_;refine tr 6 76 (qY n8) E3 ?_;refine tr 7 77 (qV xa3 xs.length xc3) E3 ?_;refine oO 8 ?_ (hS:=fun _=>(E3.out.alloc E3.out.size _));try simp only[ap,qF]
    refine oO 9 ?_ (hS:=fun _=>(E3.out.alloc E3.out.size _));try simp only[ap,qF]
    refine oO 10 ?_;try simp only[ap,qF]
    refine Ai kR ?_ _;go_wp2_with fail
    go_meet;case rel=>exact Tf K3 O3 E3.out
   ·intro K hK;go_simp;refine hK _ _ (fun _=>HE1) ?_;clear hK K;try simp only[ap,qF]
    generalize WD.alloc n4=WA at *;refine Ac (i:=4) kR rfl ?_;intro K hK;refine Ay qK 6 _ _ _ qK E6 _ _ qK qK (some 75) qK _ (CALL _ HE1) ?_;rintro v w8 ⟨ta3,oa3,ca3,co3,B3,xa3,xc3,rfl,k3,l3,o3,e3,hb3⟩;have K3:=qC k3;have O3:=qC o3;have E3:=qC e3;have L3:=qC l3;have ZC:=qC (ZB.out.below hb3);refine hK _ _ (fun _=>e3) ?_;clear hK K k3 l3 o3 e3 hb3;simp only[ap,qF];have n9:Na #[qV ta3 T1.length ca3,qV oa3 O1.length co3]:=⟨⟩;refine tr 5 70 (.tuple #[qY n9,qV xa3 xs.length xc3]) E3 ?_;refine tr 6 76 (qY n9) E3 ?_;refine tr 7 77 (qV xa3 xs.length xc3) E3 ?_;obtain⟨k1,k2⟩:=ZC.out.two;have kf:=ZC.out.jC;refine oO 9 ?_ (hS:=fun _=>(E3.out.setCell (p:=⟨WD,0,none⟩) sV _).setCell (p:=⟨WD,1,none⟩) sV _);try simp only[ap,qF]
    refine oO 10 ?_;try simp only[ap,qF]
    refine Ai kR ?_ _;go_wp2_with fail
    go_meet;case rel=>exact Ts ZC sV (qv sZ L3) K3 O3 E3.out
  case rest=>
  obtain⟨P3,ta3,oa3,ca3,co3,B3,xa3,xc3,rfl,rfl,bp,k3,o3,e3⟩:=hcut;obtain⟨va2,eva⟩:∃x,x=(if vc=c then va else va.map (·.add (c*10))):=⟨_,rfl⟩;generalize wc=w8 at *;have V8:=qC (Af V0 e3);have D8:=qC (Af DW e3);have A8:=qC o3;have BP:=qC (fun W (hW:qN w8 w8 W)=>bp.below hW);have n10:Na #[qV ta3 T1.length ca3,qV oa3 O1.length co3]:=⟨⟩;have CALL2:Hid (∀W,qN w8 w8 W->Calls prog 6 #[qY n10,qV va2 (L.length-c) (vc-c)] W fun e w'=>∃v,e= rT v/\dH w8 T' O' ys W v w'):=qC (fun W hW=>by
   have st:=(ST W (Af D8 hW)).tail HC VC.out;rw[<-eva]at st;exact WS hW.size hW (cR (cap:=vc-c) (k3.below hW) OK1 (VU W (Af D8 hW)) (by have:=LN.out;omega) st R2))
  have n18:Nv (qV va2 (L.length-c) (vc-c)):=⟨⟩;have HS2:Hid (∀w,(Instr.slice 28 (qV va L.length vc) (some (iT qH c)) none none).run prog w= .ok n18 w):=qC (fun w=>by rw[eva];exact VJ HC w);clear bp k3 o3 e3 eva CALL HE00 HS1 DW V0;go_upto_region 10 with fail
  have HE00:Hid (qN w8 w8 w8.drew):=qC (Below.refl _ _).drew;go_cut[12,13] (fun p x wc=>bF w8 T' O' ys p x wc)
  case first=>
   refine Am 10 (fun W=>qN w8 w8 W) kR ?_;refine tr 0 79 (qY n10) HE00 ?_ (hy:=fun W h=>by obtain⟨z0,z1⟩:=(BP _ h).two;go_simp);refine tr 1 80 (qV va L.length vc) HE00 ?_;refine tr 2 81 (iT qH c) HE00 ?_ (hy:=fun W h=>by have z:=CE.out;go_simp);refine tr 3 82 n18 HE00 ?_ (hy:=fun W h=>by have hs2:=HS2.out;go_simp);have n5:No (qG #[qV none 0 0,qV none 0 0] 27):=⟨⟩;have HE1:=qC (HE00.out.alloc HE00.out.size n5);have ZB:=qC (Ag.new w8.drew n5);have sV:w8.heap.size<=w8.drew.heap.size:=jP _;have sZ:w8.drew.heap.size<(w8.drew.alloc n5).heap.size:=ZB.out.lt;generalize w8.drew=WD at *;refine Cd (i:=4) (j:=8) kR rfl rfl ?_ ?_
   ·intro K hK;refine Ay qK 6 _ _ _ qK E6 _ _ qK qK (some 83) qK _ (CALL2 _ HE00) ?_;rintro v w8 ⟨ta4,oa4,ca4,co4,B4,xa4,xc4,rfl,k3,l3,o3,e3,hb3⟩;have K3:=qC k3;have O3:=qC o3;have E3:=qC e3;have L3:=qC l3;skip;refine hK _ _ (fun _=>e3) ?_;clear hK K k3 l3 o3 e3 hb3;simp only[ap,qF];have n11:Na #[qV ta4 T'.length ca4,qV oa4 O'.length co4]:=⟨⟩;refine tr 5 78 (.tuple #[qY n11,qV xa4 ys.length xc4]) E3 ?_;refine tr 6 84 (qY n11) E3 ?_;refine tr 7 85 (qV xa4 ys.length xc4) E3 ?_;refine oO 8 ?_ (hS:=fun _=>(E3.out.alloc E3.out.size _));try simp only[ap,qF]
    refine oO 9 ?_ (hS:=fun _=>(E3.out.alloc E3.out.size _));try simp only[ap,qF]
    refine oO 10 ?_;try simp only[ap,qF]
    refine Ai kR ?_ _;go_wp2_with fail
    go_meet;case rel=>exact Tf K3 O3 E3.out
   ·intro K hK;go_simp;refine hK _ _ (fun _=>HE1) ?_;clear hK K;try simp only[ap,qF]
    generalize WD.alloc n5=WA at *;refine Ac (i:=4) kR rfl ?_;intro K hK;refine Ay qK 6 _ _ _ qK E6 _ _ qK qK (some 83) qK _ (CALL2 _ HE1) ?_;rintro v w8 ⟨ta4,oa4,ca4,co4,B4,xa4,xc4,rfl,k3,l3,o3,e3,hb3⟩;have K3:=qC k3;have O3:=qC o3;have E3:=qC e3;have L3:=qC l3;have ZC:=qC (ZB.out.below hb3);refine hK _ _ (fun _=>e3) ?_;clear hK K k3 l3 o3 e3 hb3;simp only[ap,qF];have n12:Na #[qV ta4 T'.length ca4,qV oa4 O'.length co4]:=⟨⟩;refine tr 5 78 (.tuple #[qY n12,qV xa4 ys.length xc4]) E3 ?_;refine tr 6 84 (qY n12) E3 ?_;refine tr 7 85 (qV xa4 ys.length xc4) E3 ?_;obtain⟨k1,k2⟩:=ZC.out.two;have kf:=ZC.out.jC;refine oO 9 ?_ (hS:=fun _=>(E3.out.setCell (p:=⟨WD,0,none⟩) sV _).setCell (p:=⟨WD,1,none⟩) sV _);try simp only[ap,qF]
    refine oO 10 ?_;try simp only[ap,qF]
    refine Ai kR ?_ _;go_wp2_with fail
    go_meet;case rel=>exact Ts ZC sV (qv sZ L3) K3 O3 E3.out
  case rest=>
  obtain⟨G,ta4,oa4,ca4,co4,B4,xa4,xc4,rfl,rfl,bp,k4,o4,e4⟩:=hcut;generalize wc=w9 at *;have V9:=qC (Af V8 e4);have A9:=qC (A8.out.below e4);have C9:=qC o4;have BG:=qC bp;have K9:=qC k4;clear bp k4 o4 e4 CALL2 HE00 HS2 A8 BP D8 V8;go_upto_region 11 with fail
  have HN:Hid (xs.length+ys.length<=60):=qC (by have:=RN.out;rw[EZ.out,List.length_append]at this;exact this);have D0:=qC (Bg w9 (qG #[] 37));have O0:=qC (Do.made w9 w9 nr);have LX:=qC ((A9.out.below D0).lies);go_wp2_with(first
   |(have o5:=O5.out;refine JB _ rfl _ _ rfl w9 (qV a5 xs.length c5) xs rfl o5 xa4 xc4 ys rfl (C9.out.below D1x).lies (by have:=HN.out;omega) D1x.out.size ?_;intro a6 c6 w11 o6 g6;rw[<-EZ.out]at o6 ⊢;have O6:=qC o6;have Z9:=qC (D1x.out.trans (below_grown g6 D1x.out.size (fun j hj=>(qq.lt o5 j hj).1)));clear o5 o6 g6)
   |(have o0:=O0.out;refine JB _ rfl _ _ rfl w9 (qV (some ⟨w9,0,none⟩) 0 0) [] rfl o0 xa3 xc3 xs rfl LX (by have:=HN.out;show 0+_<=_;omega) D0.out.size ?_;intro a5 c5 w10 o5 g5;have O5:=qC (show Do w10 w9 (qV a5 xs.length c5) xs from o5);have D1x:=qC (D0.out.trans (below_grown g5 D0.out.size (fun j hj=>(qq.lt o0 j hj).1)));clear o0 o5 g5))
  have VZ:=qC (Af V9 Z9);have AX:=qC (AN5.out.below VZ);have AY:=qC (AM.out.below VZ);have n13:Na #[qV ta4 T'.length ca4,qV oa4 O'.length co4]:=⟨⟩;have BB:Hid (∀W,qN w11 w11 W->Ag W G (qG n13 27)):=qC (fun W hW=>BG.out.below (Af Z9 hW));have n14:Na #[qV ta T'.length ca',qV oa O'.length co']:=⟨⟩;have BNZ:Hid (∀W,qN w11 w11 W->Ag W Q (qG n14 27)):=qC (fun W hW=>BN W (Af VZ hW));have XB:Hid (∀W,qN w11 w11 W->Calls prog 8 #[qY n13] W fun e w'=>∃v,e= rT v/\(v= .string tx/\qN W W w')):=qC (fun W hW=>by rw[ET.out];exact(K9.out.below (Af Z9 hW)).text OK2);have XNZ:Hid (∀W,qN w11 w11 W->Calls prog 8 #[qY n14] W fun e w'=>∃v,e= rT v/\(v= .string tx/\qN W W w')):=qC (fun W hW=>XN W (Af VZ hW));clear AN5 AM BG XN BN A9 C9 K9 O5 O0 D0 D1x LX HN Z9 V9;generalize w11=Z at *;go_loopw [15] (fun i wr=>∃j:Nat,j<=zs.length/\i= iT qH j/\qN Z Z wr) (fun i _=>zs.length-(intOf i).toNat)
  case atStart=>exact⟨0,Nat.zero_le _,rfl,Below.refl _ _⟩
  case round=>
   obtain⟨i,hi,rfl,be⟩:=hrel;have BE:=qC be;clear be;by_cases hlt:i<zs.length
   ·have i2:(i:Int)<(zs.length:Int):=qQ;have i3:(0:Int)<=(i:Int):=qQ;have HI:=qC hlt;have IX:=qC (⟨i2,i3,hlt⟩:(i:Int)<(zs.length:Int)/\(0:Int)<=(i:Int)/\i<zs.length);obtain⟨xb,xo,rfl,xcl⟩:=AX.out.cells qQ;obtain⟨yb,yo,rfl,ycl⟩:=AY.out.cells qQ;obtain⟨zb,zo,rfl,zcl⟩:=O6.out.cells qQ;obtain⟨ze,eze⟩:∃ze,ze=zs[i]'hlt:=⟨_,rfl⟩;have XC:=qC (fun W hW=>xcl W hW i hlt);have YC:=qC (fun W hW=>ycl W hW i hlt);have ZC:=qC (fun W hW=>zcl W hW i hlt);rw[<-eze]at XC YC ZC;have DI:=qC BE.out.drew;clear hlt xcl ycl zcl eze;go_upto_region 15 with fail
    clear i2 i3;refine Am 26 (fun W=>qN Z Z W) kR ?_;have n15:Nv (qV (some ⟨xb,xo,none⟩) zs.length xc):=⟨⟩;refine tr 0 97 n15 DI ?_;refine tr 1 98 (iT qH (i:Nat)) DI ?_;have n17:Nv (pT (some ⟨xb,xo+i*2,none⟩)):=⟨⟩;refine tr 2 99 n17 DI ?_ (hy:=fun W h=>by obtain⟨z0,z1,z2⟩:=IX.out;go_simp);have n6:Nv (qY #[iT qH ze.1,.string ze.2]):=⟨⟩;refine tr 3 100 n6 DI ?_ (hy:=fun W h=>by obtain⟨z0,z1⟩:=XC.out W h;go_simp);refine tr 4 101 (qV (some ⟨yb,yo,none⟩) zs.length yc) DI ?_;refine tr 5 102 (iT qH (i:Nat)) DI ?_;refine tr 6 103 (pT (some ⟨yb,yo+i*2,none⟩)) DI ?_ (hy:=fun W h=>by obtain⟨z0,z1,z2⟩:=IX.out;go_simp);refine tr 7 104 n6 DI ?_ (hy:=fun W h=>by obtain⟨z0,z1⟩:=YC.out W h;go_simp);refine tr 8 105 (qU false) DI ?_ (hy:=fun W h=>by have z0:=M6 ze.1 ze.2;go_simp);refine tr 9 106 (qU false) DI ?_;refine tr 10 107 (iT qH (i:Nat)) DI ?_;have n16:Nv (qV (some ⟨zb,zo,none⟩) zs.length c6):=⟨⟩;refine tr 11 108 n16 DI ?_;refine tr 12 109 (iT qH (zs.length:Nat)) DI ?_;refine tr 13 110 (qU false) DI ?_ (hy:=fun W h=>by obtain⟨z0,z1,z2⟩:=IX.out;go_simp);refine tr 14 111 (qU false) DI ?_;refine tr 15 112 (qU false) DI ?_;refine tr 16 113 n16 DI ?_;refine tr 17 114 (iT qH (i:Nat)) DI ?_;refine tr 18 115 (pT (some ⟨zb,zo+i*2,none⟩)) DI ?_ (hy:=fun W h=>by obtain⟨z0,z1,z2⟩:=IX.out;go_simp);refine tr 19 116 n6 DI ?_ (hy:=fun W h=>by obtain⟨z0,z1⟩:=ZC.out W h;go_simp);refine tr 20 117 n15 DI ?_;refine tr 21 118 (iT qH (i:Nat)) DI ?_;refine tr 22 119 n17 DI ?_ (hy:=fun W h=>by obtain⟨z0,z1,z2⟩:=IX.out;go_simp);refine tr 23 120 n6 DI ?_ (hy:=fun W h=>by obtain⟨z0,z1⟩:=XC.out W h;go_simp);refine tr 24 121 (qU false) DI ?_ (hy:=fun W h=>by have z0:=M6 ze.1 ze.2;go_simp);refine tr 25 122 (qU false) DI ?_;refine Ai kR ?_ _;go_wp2_with fail
    go_roundw;case rel=>exact⟨i+1,HI,by have:=RN.out;have:=HI.out;rw[show wrap64 ((i:Int)+1)=(i:Int)+1 by unfold wrap64;omega];rfl,DI⟩
    case measure=>
     have:=RN.out;have:=HI.out;rw[show wrap64 ((i:Int)+1)=(i:Int)+1 by unfold wrap64;omega];simp[intOf];omega
   ·obtain rfl:i=zs.length:=by omega
    have DZ:=qC BE.out.drew;go_upto_region 17 with fail
    refine Am 13 (fun W=>qN Z Z W) kR ?_;refine tr 0 123 (qY #[qV ta4 T'.length ca4,qV oa4 O'.length co4]) DZ ?_ (hy:=fun W h=>by obtain⟨z0,z1⟩:=(BB W h).two;go_simp);refine tr 2 125 (qY #[qV ta T'.length ca',qV oa O'.length co']) DZ ?_ (hy:=fun W h=>by obtain⟨z0,z1⟩:=(BNZ W h).two;go_simp);refine Ac (i:=1) kR rfl ?_;intro K hK;refine An qK 8 _ _ qK E8 _ qK (some 124) qK _ (XB _ DZ) ?_;rintro v w7 ⟨rfl,hb⟩;have F1:=qC (Af DZ hb);refine hK _ _ (fun _=>F1) ?_;clear hK K hb;simp only[ap,qF];refine Ac (i:=3) kR rfl ?_;intro K hK;refine An qK 8 _ _ qK E8 _ qK (some 126) qK _ (XNZ _ F1) ?_;rintro v w7 ⟨rfl,hb⟩;have F2:=qC (Af F1 hb);refine hK _ _ (fun _=>F2) ?_;clear hK K hb;simp only[ap,qF];refine tr 4 127 (qU true) F2 ?_;refine tr 5 128 (qU true) F2 ?_;refine tr 6 129 (qV a6 zs.length c6) F2 ?_;refine tr 7 130 (iT qH (zs.length:Nat)) F2 ?_;refine tr 8 131 (qV xa zs.length xc) F2 ?_;refine tr 9 132 (iT qH (zs.length:Nat)) F2 ?_;refine tr 10 133 (qU true) F2 ?_;refine tr 11 134 (qU true) F2 ?_;refine tr 12 2 (qU true) F2 ?_;refine Ai kR ?_ _;go_wp2_with fail
    go_ret;exact⟨rfl,Af (Af LU D5) (Af VZ F2)⟩
open Go.ChangeShapes Go.WideShapes Go.ChangeAt Go.Joins
variable {n:String}{W:World}{g:Nat}{x:List UInt8}{a:Addr}
theorem Tryz.cells9:prog.cellsOf 9=1:=by kernel_rfl
theorem Xv:prog.cellsOf 334=1:=by kernel_rfl
theorem Uo: "*" ++ "errors.errorString" = "*errors.errorString" :=by decide
theorem cG(u:TypeId)(h:prog.typeName? 3 u=some "*errors.errorString"):u=314:=
 typeName_ptr_named (nm:= "errors.errorString") (by rw[Uo];kernel_rfl) kR qX u (by rw[Uo];exact h)
def gh(W:World)(n:String)(text:List UInt8)(a:Addr):Prop:=W.var? prog n=some #[.iface 314 (.pointer (some a))]/\(∃s:ByteArray,W.cell? a=some (.string s)/\s.data.toList=text)/\∃ca ta,W.heap[a.block]? =some (.cells ca ta (0,0))
theorem Mu{text:List UInt8}{r:List (String×DataW Unit)}(h:laidMet prog ((n,.iface "*errors.errorString" (.ptr (.agg [.lit (.string text)])))::r) W)(hg:prog.globalNamed n=some g)(ht:(prog.globals[g]?).map (·.type)=some 137):∃a,gh W n text a:=by
 obtain⟨ps,⟨g0,t0,cs0,f0,p0,q0,hg0,ht0,hv0,hd0,_,e0⟩,_,hrows⟩:=h;obtain rfl:=Option.some.inj (hg.symm.trans hg0);obtain rfl:=Option.some.inj (ht.symm.trans ht0);subst e0;obtain⟨l0⟩:=cs0;have ok0:∀u v,l0=[.iface u v]->Value.okWide prog W .any 0 u v:=fun u v e=>by
  subst e;exact(hrows g 0 (by simp[MemPlace.row])).2 u v (by simpa using World.var?_cell hg0 hv0 0)
 obtain⟨a0,s0,rfl,hc0,hs0,hz0,rfl⟩:=errorString_of_trod underlying137 cG underlying314 underlying334 rfl rfl underlying9 Xv Tryz.cells9 hd0 ok0;exact⟨a0,hv0,⟨s0,hc0,hs0⟩,(hrows a0.block a0.off (by simp[MemPlace.row])).1⟩
theorem GY{m:String}{y:List UInt8}{b:Addr}(h:gh W n x a)(k:gh W m y b)(d:x≠y):a≠b:=fun e=>by
 obtain⟨s,h1,h2⟩:=h.2.1;obtain⟨t,k1,k2⟩:=k.2.1;subst e;rw[h1]at k1;cases k1;exact d (h2.symm.trans k2)
theorem VX{cs:Array Value}(hg:prog.globalNamed n=some g)(h:W.var? prog n=some cs):g<W.heap.size:=by
 by_cases e:g<W.heap.size
 ·exact e
 ·simp only[World.var?,hg,Option.bind_some]at h;rw[Array.getElem?_eq_none qQ]at h;cases h
theorem Ea{W':World}{cs:Array Value}(hg:prog.globalNamed n=some g)(h:W.var? prog n=some cs)(bel:Below W W W'):W'.var? prog n=some cs:=by
 have h0:=VX hg h;unfold World.var? at h ⊢;simp only[hg,Option.bind_some]at h ⊢;rw[bel.block g h0];exact h
theorem Gw(hg:prog.globalNamed n=some g)(h:gh W n x a):W.cell? ⟨g,0,none⟩=some (.iface 314 (.pointer (some a)))/\g<W.heap.size:=⟨by simpa using World.var?_cell hg h.1 0,VX hg h.1⟩
theorem gd:prog.globalNamed "loop.example/g00272/impl.errWrong" =some 0:=by kernel_rfl
theorem gT:(prog.globals[0]?).map (·.type)=some 137:=by kernel_rfl
theorem gn:prog.globalNamed "loop.example/g00272/impl.errForm" =some 1:=by kernel_rfl
theorem gL:(prog.globals[1]?).map (·.type)=some 137:=by kernel_rfl
theorem gy:prog.globalNamed "loop.example/g00272/impl.errThread" =some 2:=by kernel_rfl
theorem gP:(prog.globals[2]?).map (·.type)=some 137:=by kernel_rfl
theorem gx:prog.globalNamed "loop.example/g00272/impl.errMade" =some 4:=by kernel_rfl
theorem gJ:(prog.globals[4]?).map (·.type)=some 137:=by kernel_rfl
theorem gm:prog.globalNamed "loop.example/g00272/impl.errOwns" =some 5:=by kernel_rfl
theorem gR:(prog.globals[5]?).map (·.type)=some 137:=by kernel_rfl
theorem gu:prog.globalNamed "loop.example/g00272/impl.errKind" =some 6:=by kernel_rfl
theorem gQ:(prog.globals[6]?).map (·.type)=some 137:=by kernel_rfl
theorem gz:prog.globalNamed "loop.example/g00272/impl.errRoot" =some 7:=by kernel_rfl
theorem gK:(prog.globals[7]?).map (·.type)=some 137:=by kernel_rfl
theorem gj:prog.globalNamed "loop.example/g00272/impl.errChange" =some 8:=by kernel_rfl
theorem gS:(prog.globals[8]?).map (·.type)=some 137:=by kernel_rfl
theorem gg:prog.globalNamed "loop.example/g00272/impl.errFlow" =some 9:=by kernel_rfl
theorem gO:(prog.globals[9]?).map (·.type)=some 137:=by kernel_rfl
theorem bY:prog.globalNamed "loop.example/g00272/impl.errOwn" =some 10:=by kernel_rfl
theorem fK:(prog.globals[10]?).map (·.type)=some 137:=by kernel_rfl
theorem bh:prog.globalNamed "loop.example/g00272/impl.errSee" =some 11:=by kernel_rfl
theorem fS:(prog.globals[11]?).map (·.type)=some 137:=by kernel_rfl
theorem bu:prog.globalNamed "loop.example/g00272/impl.errItems" =some 12:=by kernel_rfl
theorem fO:(prog.globals[12]?).map (·.type)=some 137:=by kernel_rfl
theorem cA:prog.globalNamed "loop.example/g00272/impl.errNone" =some 13:=by kernel_rfl
theorem fH:(prog.globals[13]?).map (·.type)=some 137:=by kernel_rfl
def Pj:List (String×DataW Unit):=[("math/bits.deBruijn32tab",Rows.laid_math_bits_deBruijn32tab),("math/bits.deBruijn64tab",Rows.laid_math_bits_deBruijn64tab),("internal/strconv.uint64pow10",Lib.tabData .u64 Lib.pow10Tab),("loop.example/g00272/impl.errWrong",Rows.laid_loop_example_g00272_impl_errWrong),("loop.example/g00272/impl.errForm",Rows.laid_loop_example_g00272_impl_errForm),("loop.example/g00272/impl.errThread",Rows.laid_loop_example_g00272_impl_errThread),("loop.example/g00272/impl.errKind",Rows.laid_loop_example_g00272_impl_errKind),("loop.example/g00272/impl.errRoot",Rows.laid_loop_example_g00272_impl_errRoot),("loop.example/g00272/impl.errSee",Rows.laid_loop_example_g00272_impl_errSee),("loop.example/g00272/impl.errChange",Rows.laid_loop_example_g00272_impl_errChange),("loop.example/g00272/impl.errFlow",Rows.laid_loop_example_g00272_impl_errFlow),("loop.example/g00272/impl.errOwn",Rows.laid_loop_example_g00272_impl_errOwn),("loop.example/g00272/impl.errMade",Rows.laid_loop_example_g00272_impl_errMade),("loop.example/g00272/impl.errOwns",Rows.laid_loop_example_g00272_impl_errOwns),("loop.example/g00272/impl.errItems",Rows.laid_loop_example_g00272_impl_errItems),("loop.example/g00272/impl.errNone",Rows.laid_loop_example_g00272_impl_errNone)]
theorem Tryz.g14:prog.globalNamed "internal/strconv.uint64pow10" =some 14:=by kernel_rfl
theorem Tryz.g14t:(prog.globals[14]?).map (·.type)=some 306:=by kernel_rfl
theorem Tryz.cells306:prog.cellsOf 306=20:=by kernel_rfl
theorem Tryz.et:prog.globalNamed "errors.errorType" =some 3:=by kernel_rfl
theorem Tryz.rt:(prog.cutTypes.find? (·.1== "internal/reflectlite.rtype")).map (·.2)=some 209:=by kernel_rfl
theorem Tryz.oneRow:((List.range 346).filter fun t=>prog.rowNamed t [101,114,114,111,114])=[137]:=by kernel_rfl
theorem Tryz.tsize:prog.types.size=346:=by kernel_rfl
theorem Tryz.hand:typeHandle prog 137= .pointer (some ⟨18,137,none⟩):=by kernel_rfl
theorem Xr(h:handlesMet prog [("errors.errorType",Rows.laid_errors_errorType)] W):W.var? prog "errors.errorType" =some #[.iface 209 (.agg #[.pointer (some ⟨18,137,none⟩)])]:=by
 obtain⟨name,u,ty,e1,e2,e3,e4,e5⟩:=h _ (List.mem_singleton.2 rfl);have en:name=[101,114,114,111,114]:=(Option.some.inj e1).symm;subst en;obtain rfl:=Option.some.inj (Tryz.rt.symm.trans e2);have hm:ty∈(List.range 346).filter fun t=>prog.rowNamed t [101,114,114,111,114]:=List.mem_filter.2 ⟨List.mem_range.2 (by rw[<-Tryz.tsize];exact e3),e4⟩;rw[Tryz.oneRow]at hm;obtain rfl:=List.mem_singleton.1 hm;rw[Tryz.hand]at e5;exact e5
theorem gI(h:laidMet prog Pj W):17<W.heap.size:=by
 obtain⟨ps,⟨g0,t0,cs0,f0,p0,q0,hg0,ht0,hv0,_⟩,_⟩:=h.tail;have e:g0=17:=Option.some.inj (hg0.symm.trans (show prog.globalNamed "math/bits.deBruijn64tab" =some 17 by kernel_rfl));rw[<-e];exact VX hg0 hv0
def Es(a0 a1 a2 a4 a5 a6 a7 a8 a9 a10 a11 a12 a13:Addr):Nat->Addr
 |0=>a0
 |1=>a1
 |2=>a2
 |4=>a4
 |5=>a5
 |6=>a6
 |7=>a7
 |8=>a8
 |9=>a9
 |10=>a10
 |11=>a11
 |12=>a12
 |13=>a13
 |_=>a0
theorem Zb(hk:laidMet prog Pj W/\handlesMet prog [("errors.errorType",Rows.laid_errors_errorType)] W):∃E:Nat->Addr,Mp W E/\W.var? prog "loop.example/g00272/impl.errWrong" =some #[.iface 314 (.pointer (some (E 0)))]/\W.var? prog "loop.example/g00272/impl.errForm" =some #[.iface 314 (.pointer (some (E 1)))]/\W.var? prog "loop.example/g00272/impl.errThread" =some #[.iface 314 (.pointer (some (E 2)))]/\W.var? prog "loop.example/g00272/impl.errMade" =some #[.iface 314 (.pointer (some (E 4)))]/\W.var? prog "loop.example/g00272/impl.errOwns" =some #[.iface 314 (.pointer (some (E 5)))]/\W.var? prog "loop.example/g00272/impl.errKind" =some #[.iface 314 (.pointer (some (E 6)))]/\W.var? prog "loop.example/g00272/impl.errChange" =some #[.iface 314 (.pointer (some (E 8)))]/\W.var? prog "loop.example/g00272/impl.errFlow" =some #[.iface 314 (.pointer (some (E 9)))]/\W.var? prog "loop.example/g00272/impl.errOwn" =some #[.iface 314 (.pointer (some (E 10)))]/\W.var? prog "loop.example/g00272/impl.errRoot" =some #[.iface 314 (.pointer (some (E 7)))]/\W.var? prog "loop.example/g00272/impl.errSee" =some #[.iface 314 (.pointer (some (E 11)))]/\W.var? prog "loop.example/g00272/impl.errItems" =some #[.iface 314 (.pointer (some (E 12)))]/\W.var? prog "loop.example/g00272/impl.errNone" =some #[.iface 314 (.pointer (some (E 13)))]:=by
 obtain⟨h,k⟩:=hk;have hh:=Xr k;have LT:=gI h;have hT:Td W:=Lib.tabIs_of_head Tryz.g14 Tryz.g14t underlying306 underlying77 kR Tryz.cells306 h.tail.tail;have t:=h.tail.tail.tail;obtain⟨a0,s0⟩:=Mu t gd gT;replace t:=t.tail;obtain⟨a1,s1⟩:=Mu t gn gL;replace t:=t.tail;obtain⟨a2,s2⟩:=Mu t gy gP;replace t:=t.tail;obtain⟨a6,s6⟩:=Mu t gu gQ;replace t:=t.tail;obtain⟨a7,s7⟩:=Mu t gz gK;replace t:=t.tail;obtain⟨a11,s11⟩:=Mu t bh fS;replace t:=t.tail;obtain⟨a8,s8⟩:=Mu t gj gS;replace t:=t.tail;obtain⟨a9,s9⟩:=Mu t gg gO;replace t:=t.tail;obtain⟨a10,s10⟩:=Mu t bY fK;replace t:=t.tail;obtain⟨a4,s4⟩:=Mu t gx gJ;replace t:=t.tail;obtain⟨a5,s5⟩:=Mu t gm gR;replace t:=t.tail;obtain⟨a12,s12⟩:=Mu t bu fO;replace t:=t.tail;obtain⟨a13,s13⟩:=Mu t cA fH;clear t h k;refine⟨Es a0 a1 a2 a4 a5 a6 a7 a8 a9 a10 a11 a12 a13,⟨fun i h1 h2=>?_,⟨fun i h1 h2 h3=>?_,fun i h1 h2=>?_,by simpa using World.var?_cell Tryz.et hh 0,LT⟩,hT⟩,s0.1,s1.1,s2.1,s4.1,s5.1,s6.1,s8.1,s9.1,s10.1,s7.1,s11.1,s12.1,s13.1⟩
 ·match i,h1,h2 with
  |0,_,_=>exact Gw gd s0
  |1,_,_=>exact Gw gn s1
  |2,_,_=>exact Gw gy s2
  |3,_,h=>exact absurd rfl h
  |4,_,_=>exact Gw gx s4
  |5,_,_=>exact Gw gm s5
  |6,_,_=>exact Gw gu s6
  |7,_,_=>exact Gw gz s7
  |8,_,_=>exact Gw gj s8
  |9,_,_=>exact Gw gg s9
  |10,_,_=>exact Gw bY s10
  |11,_,_=>exact Gw bh s11
  |12,_,_=>exact Gw bu s12
  |13,_,_=>exact Gw cA s13
  |i+14,h,_=>exact absurd h qQ
 ·match i,h1,h2,h3 with
  |0,_,_,h=>exact absurd rfl h
  |1,_,_,_=>exact GY s1 s0 qX
  |2,_,_,_=>exact GY s2 s0 qX
  |3,_,h,_=>exact absurd rfl h
  |4,_,_,_=>exact GY s4 s0 qX
  |5,_,_,_=>exact GY s5 s0 qX
  |6,_,_,_=>exact GY s6 s0 qX
  |7,_,_,_=>exact GY s7 s0 qX
  |8,_,_,_=>exact GY s8 s0 qX
  |9,_,_,_=>exact GY s9 s0 qX
  |10,_,_,_=>exact GY s10 s0 qX
  |11,_,_,_=>exact GY s11 s0 qX
  |12,_,_,_=>exact GY s12 s0 qX
  |13,_,_,_=>exact GY s13 s0 qX
  |i+14,h,_,_=>exact absurd h qQ
 ·match i,h1,h2 with
  |0,_,_=>exact s0.2.2
  |1,_,_=>exact s1.2.2
  |2,_,_=>exact s2.2.2
  |3,_,h=>exact absurd rfl h
  |4,_,_=>exact s4.2.2
  |5,_,_=>exact s5.2.2
  |6,_,_=>exact s6.2.2
  |7,_,_=>exact s7.2.2
  |8,_,_=>exact s8.2.2
  |9,_,_=>exact s9.2.2
  |10,_,_=>exact s10.2.2
  |11,_,_=>exact s11.2.2
  |12,_,_=>exact s12.2.2
  |13,_,_=>exact s13.2.2
  |i+14,h,_=>exact absurd h qQ
theorem Tryz.ownKnob:Go.ownKnob prog.godebug=none:=by kernel_rfl
theorem Tryz.laidOut:laidOutB prog=true:=by kernel_rfl
theorem cJ{w:World}{b o:Nat}{v:Value}(h:w.cell? ⟨b,o,none⟩=some v):b<w.heap.size:=by
 apply Nat.lt_of_not_le;intro hle;have:w.heap[b]? =none:=Array.getElem?_eq_none hle;simp[World.cell?,this]at h
theorem Tryz.cells5:prog.cellsOf 5=1:=by kernel_rfl
theorem Sj{H:Type}{enc:TypeId×Value->H}{W:World}{base:Nat}{v1:Value}{d1:DataW H}{p1:List MemPlace}(hval:Value.okWide prog W .any base 22 v1)(h1:DataW.Trod enc prog W 0 (fun _=>true) true 22 v1 d1 p1):
 ∃a n cap,v1= .slice a n cap/\BytesAt W a n:=by
 obtain⟨a1,len,cap,rfl⟩:=okWide_slice underlying22 hval;obtain⟨fuel,hf⟩:=h1;rcases open_ints underlying22 underlying5 Tryz.cells5 hf with⟨hcs,hx⟩|⟨a,len',cap',zs,hcs,_,hl,hm,hz,hx,hcell,hwz⟩
 ·simp[Value.cells]at hcs;obtain⟨rfl,rfl,rfl⟩:=hcs;exact⟨none,0,0,rfl,fun h=>by omega⟩
 ·simp[Value.cells]at hcs;obtain⟨rfl,rfl,rfl⟩:=hcs;simp only[if_true]at hz;obtain⟨ab,ao,spot⟩:=a;refine⟨_,_,_,rfl,fun h0=>?_⟩;have hspot:spot=none:=by simpa[Addr.add]using World.cell?_spot (hcell 0 qQ)
  subst hspot;have h00:=hcell 0 qQ;rw[Addr.add_lit]at h00;refine⟨ab,ao,rfl,cJ h00,fun i hi=>?_⟩;have hi':=hcell i qQ;rw[Addr.add_lit]at hi';have hb:=range_u8 hwz i;rw[List.getD_eq_getElem?_getD]at hi';exact⟨_,hi',hb.1,by omega⟩
end Go.Proofs.YtdaccbddcjlkpaaGreatDoor
