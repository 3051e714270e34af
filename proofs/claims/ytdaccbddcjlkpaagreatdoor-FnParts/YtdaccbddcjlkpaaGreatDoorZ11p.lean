import Derived.Test.YtdaccbddcjlkpaaGreatDoorZ10p
set_option maxRecDepth 100000
set_option maxHeartbeats 16000000
namespace Go.Proofs.YtdaccbddcjlkpaaGreatDoor
open Go Go.RowKit Go.Deep Go.Maps Go.BigFrame Go.Shelf Go.Proofs.Tryz
open Go.Value renaming slice→qV
open _root_.List renaming set→qF,range→qx
open _root_.Nat renaming le_trans→qj
open Go renaming World→qM
def AI.new{w:qM}{B k:Nat}{a:Option Addr}{l:List Int}(h:AI w B (qV a l.length k) l)(hm:l.length<=maxLen):(⟨a,l.length,k,AZ l⟩:AJ).new B w:=
 ⟨⟨hm,(AI.lies h).ints⟩,fun h0=>by have:=DT h h0;simpa using this⟩
def Fg.setOwn{w0 wr:qM}{B P:Nat}{s:Aj}{g ca q co:Nat}{lt:List Ae}{lo:List Ab}{t:Nat}{m:Value}(h0:Fg w0 B P s g ca q co lt lo t m)(h:Fg wr B P s g ca q co lt lo t m){d:AJ}(ht:t<lt.length){X:Ae}(hX:X=lt[t])(hd:d.new w0 wr)(hdc:d.n<=d.k/\d.k<=maxLen)(hB:B<=w0.heap.size):
 Fg (wr.setCell ⟨g,t*7+5,none⟩ (qV d.a d.n d.k)) B P s g ca q co (lt.set t ⟨X.id,X.b1,X.c1,X.b2,X.c2,d,X.made⟩) lo t m/\B<=g/\∃cur,Ag wr g (.cells cur 53):=by
 obtain⟨k1,⟨cur,hc⟩,hg⟩:=h.st.setOwn ht hX (hd.low hB) hdc;have el:(lt.set t (⟨X.id,X.b1,X.c1,X.b2,X.c2,d,X.made⟩:Ae)).length=lt.length:=by simp
 have hn:X.cb.Nodup:=Dr (L:=lt.map Ae.cb) (t:=t) (by simp[ht,hX]) h.ap.c;exact⟨⟨by rw[el];exact k1,h.ap.setT h0.st ht (x:=⟨X.id,X.b1,X.c1,X.b2,X.c2,d,X.made⟩) hn (fun b hb=> .inl (by rw[<-hX];exact hb)) hd.bs.1 (fun y hy=> .inr (hd.bs.2 y hy).1),by rw[el];exact h.wk.other (Ne.symm h.setP.1) _,h.lp⟩,hg,cur,hc⟩
def Uk(w:qM)(B P:Nat)(s:Aj)(g ca q co:Nat)(lt:List Ae)(lo:List Ab)(t:Nat)(m:Value)(h:Fg w B P s g ca q co lt lo t m)(hB:B<=w.heap.size)(ht:t<lt.length)(X:Ae)(hX:X=lt[t])(h1:X.made≠30)(h2:X.own.n≠10)(hi:1<=X.id/\X.id<=1000000)(hm:0<=X.made/\X.made<=1000000)(hn:X.own.n<=1000)(tx:ByteArray)
 (DEC:∀W,Below B w W->Calls prog 168 #[.int .i64 (Aw X)] W fun e w'=>e= .returned (.string tx)/\Below W W w'):
 Calls prog 143 #[.pointer P] w fun e w'=>∃(a:Option Addr) (cc:Nat) (L:List Int),L=Lib.compact (CM ((qx X.own.n).map X.own.h++[Aw X]))/\e= .returned (.tuple #[.string tx,.nilIface])/\Fg w' B P s g ca q co (lt.set t ⟨X.id,X.b1,X.c1,X.b2,X.c2,⟨a,L.length,cc,AZ L⟩,X.made+1⟩) lo t m/\Below B w w':=by
 obtain⟨CW,gl⟩:=h.st.jJ ht;rw[<-hX]at CW;have q6:w.cell? ⟨g,t*7+6,none⟩=some (.int .i64 X.made):=CW.c6;have q5:w.cell? ⟨g,t*7+5,none⟩=some (qV X.own.a X.own.n X.own.k):=CW.c5;obtain⟨_,_,_,c12,_⟩:=h.wk.jZ;have NUM:=qC (Wa w B P s g ca q co lt lo t m h ht X hX hi hm);have HD:=qC DEC;have b1:(X.made==30)=false:=by simpa using h1
 have b2:¬(X.own.n:Int)=10:=by omega
 have b3:((X.own.n:Int)==10)=false:=by simpa using b2
 have HX:=qC hX;clear h CW hX DEC;go_enter func143,ntmps143
 go_wp2_with fail
 refine NUM.out.mono ?_;rintro e w1 ⟨rfl,s1,bb1⟩;have el:(lt.set t (⟨X.id,X.b1,X.c1,X.b2,X.c2,X.own,X.made+1⟩:Ae)).length=lt.length:=by simp
 have S1:Hid (Fg w1 B P s g ca q co (lt.set t ⟨X.id,X.b1,X.c1,X.b2,X.c2,X.own,X.made+1⟩) lo t m):=qC s1;have B1:=qC bb1;obtain⟨C1,gl1⟩:=s1.st.jJ (t:=t) (by rw[el];exact ht);have eg:(lt.set t (⟨X.id,X.b1,X.c1,X.b2,X.c2,X.own,X.made+1⟩:Ae))[t]'(by rw[el];exact ht)=⟨X.id,X.b1,X.c1,X.b2,X.c2,X.own,X.made+1⟩:=by simp
 rw[eg]at C1;have n2:No (.cells (IN s g lt.length ca q lo.length co t m) 175):=⟨⟩;have Z1:Hid ((fun W=>Ag W P n2/\W.cell? ⟨g,t*7+5,none⟩=some (qV X.own.a X.own.n X.own.k)) w1.drew):=qC ⟨by have:=s1.wk;rw[el]at this;exact this,C1.c5⟩;have XA:Hid (X.own.at w1.drew):=qC (by have:=(s1.st.tn _ (List.getElem_mem (show t<_ by rw[el];exact ht)));rw[eg]at this;exact this.2.2.1.below (Below.refl _ w1).drew);have ET:Hid (∀args w,(callFunc 167 args).run prog w= .ok (.enter 167 args) w):=qC (enters_of func167 kR rfl);clear NUM s1 bb1 C1 q6 q5 c12 eg;go_upto_region 6 with fail
 refine Am 16 (fun W=>Ag W P n2/\W.cell? ⟨g,t*7+5,none⟩=some (qV X.own.a X.own.n X.own.k)) kR ?_;have n3:Nv (.pointer P):=⟨⟩;refine tr 0 28 n3 Z1 ?_;refine tr 1 29 n3 Z1 ?_;have n5:Nv (.pointer (some ⟨P,12,none⟩)):=⟨⟩;refine tr 2 30 n5 Z1 ?_;have n4:Nv (.pointer (some ⟨g,t*7,none⟩)):=⟨⟩;refine tr 3 31 n4 Z1 ?_ (hy:=fun W h=>by obtain⟨_,_,_,k12,_⟩:=h.1.jZ;go_simp);refine tr 4 32 n3 Z1 ?_;refine tr 5 33 n3 Z1 ?_;refine tr 6 34 n5 Z1 ?_;refine tr 7 35 n4 Z1 ?_ (hy:=fun W h=>by obtain⟨_,_,_,k12,_⟩:=h.1.jZ;go_simp);refine tr 8 36 n4 Z1 ?_;refine tr 9 37 (.pointer (some ⟨g,t*7+5,none⟩)) Z1 ?_;refine tr 10 38 (qV X.own.a X.own.n X.own.k) Z1 ?_ (hy:=fun W h=>by have y5:=h.2;go_simp);refine tr 11 39 (.int .i64 (Aw X)) Z1 ?_;have n1:Nw (w1.alloc (.cells #[.int .i64 (Aw X)] 2)):=⟨⟩;have BA:Below w1 w1 (n1:qM).drew:=(Bg w1 _).drew;have ZA:Hid ((fun W=>Ag W P n2/\W.cell? ⟨g,t*7+5,none⟩=some (qV X.own.a X.own.n X.own.k)) (n1:qM).drew):=qC ⟨(show Ag w1 P _ from Z1.out.1).below BA,(BA.cell (p:=⟨g,t*7+5,none⟩) gl1).trans (show w1.cell? ⟨g,t*7+5,none⟩=_ from Z1.out.2)⟩;have DC:((n1:qM).drew).cell? ⟨w1,0,none⟩=some (.int .i64 (Aw X)):=by go_simp
 have DA:Hid ((⟨some ⟨w1,0,none⟩,1,1,fun _=>Aw X⟩:AJ).at (n1:qM).drew):=qC ⟨by show 1<=maxLen;unfold maxLen;decide,fun _=>⟨w1,0,rfl,by simp[World.drew],fun j hj=>by
  have e:j=0:=by simp at hj;omega
  subst e;exact DC⟩⟩
 clear DC;have P2:Hid (Calls prog 167 #[X.own,qV (w1) 1 1] (n1:qM).drew fun e w'=>∃v,e= .returned v/\∃(a:Option Addr) (k:Nat) (L:List Int),L=Lib.compact (CM ((qx X.own.n).map X.own.h++[Aw X]))/\v= qV a L.length k/\AI w' (n1:qM).drew.heap.size (qV a L.length k) L/\Below (n1:qM).drew.heap.size (n1:qM).drew w'):=qC ((Ln X.own ⟨some ⟨w1,0,none⟩,1,1,fun _=>Aw X⟩ (n1:qM).drew ((show X.own.at w1 from XA.out).below BA) DA hn sI).mono fun e w' hh=>by
  obtain⟨a,k,L,h1,rfl,h3,h4⟩:=hh;exact⟨_,rfl,a,k,L,h1,rfl,h3,h4⟩)
 refine Ac (i:=12) kR rfl ?_;intro K hK;go_simp;refine hK _ _ (fun _=>ZA) ?_;clear hK K;try simp only[ap,qF]
 have SA:=qC (S1.out.below BA);have A1:=qC (B1.out.trans (BA.mono (qj hB B1.out.size)));have sz:B<=((n1:qM).drew).heap.size:=qj hB A1.out.size;refine Ac (i:=13) kR rfl ?_;intro K hK;refine Ay qK 167 _ _ _ qK ET _ _ qK qK (some 41) qK _ P2 ?_;rintro v w3 ⟨a,k,L,hL,rfl,o3,b3⟩;have S3:=qC (SA.out.below b3);have wk3:=S3.out.wk;rw[el]at wk3;have gl3:g<((n1:qM).drew).heap.size:=Nat.lt_of_lt_of_le gl1 BA.size;have c5:w3.cell? ⟨g,t*7+5,none⟩=some (qV X.own.a X.own.n X.own.k):=(b3.cell (p:=⟨g,t*7+5,none⟩) gl3).trans ZA.out.2;have Z3:Hid ((fun W=>Ag W P n2/\W.cell? ⟨g,t*7+5,none⟩=some (qV X.own.a X.own.n X.own.k)) w3):=qC ⟨wk3,c5⟩;have cap:=Dj o3;have dn:=o3.new (qj cap.1 cap.2);obtain⟨S4,hBg,cur,hcu⟩:=SA.out.setOwn S3 (d:=⟨a,L.length,k,AZ L⟩) (by rw[el];exact ht) (X:=⟨X.id,X.b1,X.c1,X.b2,X.c2,X.own,X.made+1⟩) sI dn cap sz;rw[List.set_set]at S4;have S4':=qC S4;have gf:=hcu.jC;have B3:=qC (A1.out.trans (b3.mono sz));have HL:=qC hL;have KK:=hK;refine KK _ _ (fun _=>Z3) ?_;clear hK KK K S4 dn o3 b3 wk3 hL;simp only[ap,qF];refine Ac (i:=14) kR rfl ?_;intro K hK;go_simp;refine hK _ _ (fun _=>Z3) ?_;clear hK K;try simp only[ap,qF]
 refine Ac (i:=15) kR rfl ?_;intro K hK;go_simp;refine hK _ _ (fun _=>Z3) ?_;clear hK K;try simp only[ap,qF]
 refine Ac (i:=16) kR rfl ?_;intro K hK;go_simp;refine hK _ _ nA ?_;clear hK K;try simp only[Act.put]
 refine Ai kR ?_ _;have B4:=qC (B3.out.setCell (p:=⟨g,t*7+5,none⟩) hBg (qV a L.length k));go_wp2_with fail
 refine(HD _ B4).mono ?_;rintro e w5 ⟨rfl,b5⟩;have S5:=qC (S4'.out.below b5);have B5:=qC (B4.out.trans (b5.mono (qj hB B4.out.size)));clear b5;go_wp2;go_ret2;exact⟨a,k,L,HL,rfl,S5,B5⟩
open Go.Ending renaming returned→rT
open Go.Region renaming wanted→jU
section
variable {lo:List Ab}{w:qM}{B ca co:Nat}{ta oa:Option Addr}{lt:List Ae}
def Cd{P:Program}{ops:Array Oper}{Q:Exit->Act->qM->Prop}{md:Region.Mode}{S:qM->Prop}{m:Nat}{i j:Nat}{o o':Oper}{fuel:Nat}{listed:Array Bool}{a:Act}{w:qM}(hr:Region.ready md ops listed=[i,j])(ho:ops[i]? =some o)(ho':ops[j]? =some o')
 (h:∀K':Act->qM->Prop,Shut (∀a w,((listed.setIfInBounds i true).getD m false=false->S w)->Cs P md ops Q S m fuel (listed.setIfInBounds i true) a w->K' a w)->if jU o (yielded ops a.tmps)=true then Oper.wp P o a w K' Q else K' (a.put o.dst undef) w)
 (h':∀K':Act->qM->Prop,Shut (∀a w,((listed.setIfInBounds j true).getD m false=false->S w)->Cs P md ops Q S m fuel (listed.setIfInBounds j true) a w->K' a w)->if jU o' (yielded ops a.tmps)=true then Oper.wp P o' a w K' Q else K' (a.put o'.dst undef) w):
 Cs P md ops Q S m (fuel+1) listed a w:=
 ⟨fun h0=>(by rw[hr]at h0;cases h0),fun k hk=>by
   rw[hr]at hk;rcases List.mem_cons.1 hk with rfl|hk
   ·exact wpOp_step ho (fun K' hK=>h K' (fun a w hS hW=>hK a w ⟨hS,hW⟩))
   ·obtain rfl:=List.mem_singleton.1 hk;exact wpOp_step ho' (fun K' hK=>h' K' (fun a w hS hW=>hK a w ⟨hS,hW⟩))⟩
def Ez{f:Nat}{a:Array Value}{W:qM}{v:Value}{R:qM->Prop}(h:Calls prog f a W fun e w'=>e= rT v/\R w'):Calls prog f a W fun e w'=>∃x,e= rT x/\(x=v/\R w'):=h.mono fun _ _ ⟨e1,h1⟩=>⟨_,e1,rfl,h1⟩
def H9(X:Ae)(b:Int)(c:As):Bool:=CX b c.n c.f c.g X.own.n X.own.h X.b1 X.c1.n X.c1.f X.c1.g
def Ap(X:Ae)(b:Int)(c:As):Bool:=H9 X b c&&CX X.b1 X.c1.n X.c1.f X.c1.g X.own.n X.own.h b c.n c.f c.g
def dT(X:Ae)(b:Int)(c:As)(W:qM)(hX:X.at W)(xs:X.small)(r1:FF X.c1)(hc:c.at W)(hn:c.n<=1048576)(rc:FF c):
 Calls prog 99 #[.agg X,.agg #[.int .i64 b,c]] W fun e w'=>e= rT (.bool (H9 X b c))/\Below W W w':=
 OY X.id X.made X.b1 X.c1.a X.c1.n X.c1.k X.c1.f X.c1.g X.b2 X.c2.a X.c2.n X.c2.k X.c2.f X.c2.g X.own.a X.own.n X.own.k X.own.h b c.a c.n c.k c.f c.g W hX.1.1 hX.2.1.1 hX.2.2.1 hX.1.2 hX.2.1.2 hX.2.2.2 hc.1 hc.2 xs.1 hn r1 rc
def Hd(X:Ae)(b:Int)(c:As)(W:qM)(hX:X.at W)(xs:X.small)(r1:FF X.c1)(hc:c.at W)(hn:c.n<=1048576)(rc:FF c):
 Calls prog 95 #[.agg X,.agg #[.int .i64 b,c]] W fun e w'=>e= rT (.bool (Ap X b c))/\Below W W w':=
 Qi X.id X.made X.b1 X.c1.a X.c1.n X.c1.k X.c1.f X.c1.g X.b2 X.c2.a X.c2.n X.c2.k X.c2.f X.c2.g X.own.a X.own.n X.own.k X.own.h b c.a c.n c.k c.f c.g W hX.1.1 hX.2.1.1 hX.2.2.1 hX.1.2 hX.2.1.2 hX.2.2.2 hc.1 hc.2 xs.1 hn r1 rc
def El(b:Int)(c:As)(o:AJ)(b':Int)(c':As):Bool:=CX b c.n c.f c.g o.n o.h b' c'.n c'.f c'.g
def SG(b:Int)(c:As)(o:AJ)(b':Int)(c':As)(W:qM)(hc:c.at W)(ho:o.at W)(hc':c'.at W)(n1:c.n<=1048576)(n2:c'.n<=1048576)(r1:FF c)(r2:FF c'):
 Calls prog 93 #[.agg #[.int .i64 b,c],o,.agg #[.int .i64 b',c']] W fun e w'=>e= rT (.bool (El b c o b' c'))/\Below W W w':=
 GQ _ _ _ _ c.f c.g _ _ _ o.h _ _ _ _ c'.f c'.g W n1 n2 ho.1 hc.2 hc'.2 ho.2 r1 r2
def df(o:AJ)(x:Int)(W:qM)(ho:o.at W):
 Calls prog 94 #[o,.int .i64 x] W fun e w'=>e= rT (.bool (hasB o.n o.h x))/\w'=W:=J7 _ _ _ o.h x W ho.1 ho.2
def Hq(lo:List Ab)(x:Int):Option Nat:=Bq (fun i=>(Aa lo i).id) lo.length x
def Us(lt:List Ae)(x:Int):Option Nat:=Bq (fun i=>(Be lt i).id) lt.length x
def Ht{x:Int}{u:Nat}(h:Hq lo x=some u):∃hu:u<lo.length,(lo[u]'hu).id=x:=by
 obtain⟨h1,h2⟩:=AH h;refine⟨h1,?_⟩;have e1:Aa lo u=lo[u]:=by simp[Aa,h1]
 rw[<-e1];exact h2
def Pb(h:Bz w B (qV ta lt.length ca) (qV oa lo.length co) lt lo)(h1:lt.length<=1048576)(h2:lo.length<=1048576)(h3:∀x∈lo,x.data.size<=maxLen)(x:Int):
 Calls prog 23 #[.agg #[qV ta lt.length ca,qV oa lo.length co],.int .i64 x] w fun e w'=>e= rT (.int .i64 (GX (Hq lo x)))/\Below w w w':=Kw (Df ta ca oa co lt lo) x w (h.at h1 h2 h3)
def dP(ta:Option Addr)(ca:Nat)(oa:Option Addr)(co:Nat)(lt:List Ae)(lo:List Ab):(Df ta ca oa co lt lo).oL lo.length=lo:=by
 refine List.ext_getElem (by simp[Av.oL]) fun i h1 h2=>?_;simp[Av.oL,Df,Aa,h2]
def fF(h:Bz w B (qV ta lt.length ca) (qV oa lo.length co) lt lo)(h1:lt.length<=1048576)(h2:lo.length<=1048000)(h3:∀x∈lo,x.data.size<=maxLen)(o:Ab):
 Calls prog 96 #[.agg #[qV ta lt.length ca,qV oa lo.length co],.agg o] w fun e w'=>∃(ob:Option Addr) (cb:Nat),e= rT (.agg #[qV ta lt.length ca,qV ob (Bs o lo).length cb])/\AW w' w (qV ob (Bs o lo).length cb) (Bs o lo)/\Below w w w':=by
 have:=YM (Df ta ca oa co lt lo) o w (h.at h1 qQ h3) h2;have e:(Df ta ca oa co lt lo).oL (Df ta ca oa co lt lo).on=lo:=dP ta ca oa co lt lo;rw[e]at this;exact this
def Gg(X:Ae)(s:Aj)(lo:List Ab):Bool:=
 match Hq lo s.id with
 |none=>false
 |some u=>decide ((Aa lo u).kind=3)&&Ap X (Aa lo u).b1 (Aa lo u).c1&&El X.b1 X.c1 X.own s.b1 s.c1&&El s.b1 s.c1 X.own X.b2 X.c2&&(!decide (0<s.cat)||hasB X.own.n X.own.h s.cat)
end
open _root_.Nat renaming zero_add→jk
def Fb(kind:Int):Nat:=if kind=1 then 250 else if kind=2 then 252 else if kind=3 then 254 else 256
def Jw(w:World)(B P:Nat)(s:Aj)(g ca q co:Nat)(lt:List Ae)(lo:List Ab)(t c C n:Nat)(ids:Nat->Int)(nb:Nat->Nat)(kv:Nat->Value)(K:Nat->List Int)(h:Fg w B P s g ca q co lt lo t (.map (some c)))(hn:Ei w C c n ids q 0 nb kv K)(hl:n<=lo.length)(hd:∀x∈lo,x.data.size<=maxLen)(id:Int)(hi:(Lit.int .i64 id).wf=true):
 Calls prog 182 #[.pointer P,.int .i64 id] w fun e w'=>((Bq ids n id=none/\e= .returned .nilIface)∨∃i,Bq ids n id=some i/\e= .returned (.iface (Fb (Aa lo i).kind) (.agg #[.pointer (some ⟨q,i*10,none⟩)])))/\Below w w w':=by
 obtain⟨_,_,_,_,c13⟩:=h.wk.jZ;have LK:=hn.map.look hi;cases hf:Bq ids n id with
 |none=>
  rw[hf]at LK;simp only[Option.map_none]at LK;go_enter func182,ntmps182
  go_wp2;go_ret;exact⟨.inl ⟨by first|trivial|rfl,rfl⟩,Below.refl _ _⟩
 |some i=>
  rw[hf]at LK;simp only[Option.map_some]at LK;obtain⟨hin,_⟩:=AH hf;obtain⟨z0,z1⟩:=(hn.blk i hin).two;rw[jk]at z0;obtain⟨CW,gl⟩:=h.st.jF (t:=i) qQ hd;have eo:lo[i]'(by omega)=Aa lo i:=by simp[Aa,show i<lo.length by omega]
  rw[eo]at CW;have nl:nb i<w.heap.size:=(hn.blk i hin).lt;have k1:w.cell? ⟨q,i*10+1,none⟩=some (.int .i64 (Aa lo i).kind):=CW.c1;have n1:No (.cells #[.pointer (some ⟨q,i*10,none⟩)] 248):=⟨⟩;have e0:(w.alloc n1).cell? ⟨nb i,0,none⟩=some (.pointer (some ⟨q,i*10,none⟩)):=(((hn.blk i hin).alloc _).two.1).trans (by rw[jk]);have e1:(w.alloc n1).cell? ⟨q,i*10+1,none⟩=some (.int .i64 (Aa lo i).kind):=(CW.below gl (Bg w _)).c1;have BL:=qC ((Below.refl w w).alloc nr n1);clear CW eo;obtain⟨kd,hk⟩:∃kd,(Aa lo i).kind=kd:=⟨_,rfl⟩;rw[hk]at k1 e1;have HK:=qC hk;clear hk;by_cases h1:kd=1
  ·subst h1;go_enter func182,ntmps182
   go_wp2;go_ret;exact⟨.inr ⟨i,rfl,by rw[HK.out];rfl⟩,BL⟩
  ·by_cases h2:kd=2
   ·subst h2;go_enter func182,ntmps182
    go_wp2;go_ret;exact⟨.inr ⟨i,rfl,by rw[HK.out];rfl⟩,BL⟩
   ·by_cases h3:kd=3
    ·subst h3;go_enter func182,ntmps182
     go_wp2;go_ret;exact⟨.inr ⟨i,rfl,by rw[HK.out];rfl⟩,BL⟩
    ·have ty:Fb kd=256:=(by unfold Fb;rw[if_neg h1,if_neg h2,if_neg h3]);go_enter func182,ntmps182
     go_wp2;go_ret;exact⟨.inr ⟨i,rfl,by rw[HK.out,ty];rfl⟩,BL⟩
open Go.Value renaming pointer→pT
open _root_.Nat renaming lt_of_lt_of_le→qv
open _root_.List renaming getElem_mem→qk
open Go.RowKit renaming Below→qN
def Xx(E:Nat->Addr)(w:qM)(B P:Nat)(s:Aj)(g ca q co:Nat)(lt:List Ae)(lo:List Ab)(t:Nat)(m:Value)(h:Fg w B P s g ca q co lt lo t m)(he:LY w E)(h14:14<=B)(hB:B<=w.heap.size)(ht:t<lt.length)(X:Ae)(hX:X=lt[t])(u:Nat)(hu:u<lo.length)(O:Ab)(hO:O=lo[u])(hd:∀x∈lo,x.data.size<=maxLen)(fl:Bool)
 (FL:∀W,qN w w W->Calls prog 179 #[.agg #[X.b1,X.c1],X.own,.agg #[O.b2,O.c2]] W fun e w'=>e= .returned (.bool fl)/\qN W W w')(hn:X.own.n<=1000)(hm:O.own.n<=1000)(L:List Int)(hL:L=Lib.compact (CM ((qx X.own.n).map X.own.h++(qx O.own.n).map O.own.h))):
 Calls prog 188 #[pT P,.agg #[pT (some ⟨q,u*10,none⟩)]] w fun e w'=>∃(v:Value) (x:Ae) (c:Int),e= .returned v/\Fg w' B P s g ca q co (lt.set t x) lo t m/\qN B w w'/\Told w' B E v c/\((c=4/\fl=false/\x=X)∨(c=5/\fl=true/\10<L.length/\x=X)∨(c=0/\fl=true/\¬10<L.length/\∃(a:Option Addr) (cc:Nat),x=⟨X.id,X.b1,X.c1,X.b2,X.c2,⟨a,L.length,cc,AZ L⟩,X.made⟩)):=by
 obtain⟨CW,gl⟩:=h.st.jJ ht;rw[<-hX]at CW;obtain⟨CO,ql⟩:=h.st.jF hu hd;rw[<-hO]at CO;have XN:=qC (show X.new B w by rw[hX];exact h.st.tn _ (qk ht));have ON:=qC (show O.new B w by rw[hO];exact h.st.on _ (qk hu));have HW:=qC h;have HE:=qC he;have HX:=qC hX;have HFL:=qC FL;have HL:=qC hL;have n1:Nw (w.alloc (.cells #[pT (some ⟨q,u*10,none⟩)] 256)):=⟨⟩;have b0:qN w w n1:=Bg w _;have B0:=qC b0;have n5:Nv (pT (some ⟨q,u*10,none⟩)):=⟨⟩;have c0:(n1:qM).cell? ⟨w,0,none⟩=some (pT (some ⟨q,u*10,none⟩)):=by go_simp
 have BX:Hid (∀W,qN (n1:qM).heap.size n1 W->Ag W P (.cells (IN s g lt.length ca q lo.length co t m) 175)/\FA W g (t*7) X/\Di W q (u*10) O/\W.cell? ⟨w,0,none⟩=some (pT (some ⟨q,u*10,none⟩))):=qC (fun W hW=>⟨(HW.out.wk.below B0).below hW,(CW.below gl B0).below (qv gl B0.out.size) hW,(CO.below ql B0).below (qv ql B0.out.size) hW,(hW.cell (p:=⟨w,0,none⟩) sI).trans c0⟩);have EF:Hid (∀args w,(callFunc 179 args).run prog w= .ok (.enter 179 args) w):=qC (enters_of func179 kR rfl);have ET:Hid (∀args w,(callFunc 167 args).run prog w= .ok (.enter 167 args) w):=qC (enters_of func167 kR rfl);have D0:=qC (Below.refl (n1:qM).heap.size n1).drew;have n7:Na #[X.b1,X.c1]:=⟨⟩;have n8:Na #[O.b2,O.c2]:=⟨⟩;have P1:Hid (Calls prog 179 #[.agg n7,X.own,.agg n8] (n1:qM).drew fun e w'=>∃v,e= .returned v/\(v= .bool fl/\qN (n1:qM).drew.heap.size (n1:qM).drew w')):=qC ((HFL _ (Af B0 D0)).mono fun _ _ h=>⟨_,h.1,rfl,h.2⟩);clear h he hX FL CW CO hO c0 b0 hL hd;go_enter func188,ntmps188
 go_upto_region 1 with fail
 refine Am 22 (fun W=>qN (n1:qM).heap.size n1 W) kR ?_;have n3:Nv (pT P):=⟨⟩;refine tr 0 6 n3 D0 ?_;refine tr 1 7 n3 D0 ?_;have n6:Nv (pT (some ⟨P,12,none⟩)):=⟨⟩;refine tr 2 8 n6 D0 ?_;have n2:Nv (pT (some ⟨g,t*7,none⟩)):=⟨⟩;refine tr 3 9 n2 D0 ?_ (hy:=fun W h=>by obtain⟨⟨k0,k1,k2,k3,k4,k5,k6,k7,k8,k9⟩,k10,k11,k12,k13⟩:=(BX W h).1.jZ;go_simp);refine tr 4 10 n2 D0 ?_;refine tr 5 11 (pT (some ⟨g,t*7+1,none⟩)) D0 ?_;refine tr 6 12 (.agg n7) D0 ?_ (hy:=fun W h=>by have C:=(BX W h).2.1;have y1:W.cell? ⟨g,t*7+1,none⟩=some (.int .i64 X.b1):=C.c1;have y2:W.cell? ⟨g,t*7+1+1,none⟩=some (qV X.c1.a X.c1.n X.c1.k):=C.c2;go_simp);refine tr 7 13 n3 D0 ?_;refine tr 8 14 n3 D0 ?_;refine tr 9 15 n6 D0 ?_;refine tr 10 16 n2 D0 ?_ (hy:=fun W h=>by obtain⟨⟨k0,k1,k2,k3,k4,k5,k6,k7,k8,k9⟩,k10,k11,k12,k13⟩:=(BX W h).1.jZ;go_simp);refine tr 11 17 n2 D0 ?_;have n9:Nv (pT (some ⟨g,t*7+5,none⟩)):=⟨⟩;refine tr 12 18 n9 D0 ?_;refine tr 13 19 (qV X.own.a X.own.n X.own.k) D0 ?_ (hy:=fun W h=>by have C:=(BX W h).2.1;have y5:W.cell? ⟨g,t*7+5,none⟩=some (qV X.own.a X.own.n X.own.k):=C.c5;go_simp);have n4:Nv (pT (w)):=⟨⟩;refine tr 14 20 n4 D0 ?_;refine tr 15 21 n4 D0 ?_;refine tr 16 22 n5 D0 ?_ (hy:=fun W h=>by have y:=(BX W h).2.2.2;go_simp);refine tr 17 23 n5 D0 ?_;refine tr 18 24 (pT (some ⟨q,u*10+8,none⟩)) D0 ?_;refine tr 19 25 (.agg n8) D0 ?_ (hy:=fun W h=>by have C:=(BX W h).2.2.1;have y1:W.cell? ⟨q,u*10+8,none⟩=some (.int .i64 O.b2):=C.c8;have y2:W.cell? ⟨q,u*10+8+1,none⟩=some (qV O.c2.a O.c2.n O.c2.k):=C.c9;go_simp);refine Ac (i:=20) kR rfl ?_;intro K hK;refine Dq qK 179 _ _ _ _ qK EF _ _ _ qK qK qK (some 26) qK _ P1 ?_;rintro v w1 ⟨rfl,b1⟩;have V1:=qC (Af D0 b1);refine hK _ _ (fun _=>V1) ?_;clear hK K b1;simp only[ap,qF];refine tr 21 27 (.bool (!fl)) V1 ?_;refine Ai kR ?_ _;have A1:=qC (Af B0 V1);have H1:=qC (HW.out.below A1);cases fl with
 |false=>
  have e9:=(HE.out.below h14 (A1.out.mono hB) 9 qQ qQ).1;go_wp2_with fail
  refine(Bv 314 (pT (some (E 9))) w1).mono ?_;rintro e w2 ⟨rfl,rfl⟩;go_wp2;go_ret;have b2:qN w1 w1 (w1.alloc (.cells #[.int .i64 4,.iface 314 (pT (some (E 9)))] 145)):=Bg w1 _;refine⟨_,rfl,X,by rw[HX.out,FE];exact H1.out.below b2,(Af A1 b2).mono hB,4,.inr ⟨by decide,_,9,rfl,Ag.new w1 _,by decide,by decide,by decide,qj hB A1.out.size⟩,⟨rfl,rfl⟩⟩
 |true=>
  go_upto_region 3 with fail
  have D2:=qC V1.out.drew;have A2:=qC (Af B0 D2);have H2:=qC (HW.out.below A2);have P2:Hid (Calls prog 167 #[X.own,O.own] w1.drew fun e w'=>∃v,e= .returned v/\∃(a:Option Addr) (k:Nat),v= qV a L.length k/\AI w' w1.drew.heap.size (qV a L.length k) L/\qN w1.drew.heap.size w1.drew w'):=qC ((Ln X.own O.own w1.drew (XN.out.2.2.1.below A2) (ON.out.2.2.1.1.below A2) hn hm).mono fun e w' hh=>by
   obtain⟨a,k,L',h1,rfl,h3,h4⟩:=hh;rw[<-HL.out]at h1;subst h1;exact⟨_,rfl,a,k,rfl,h3,h4⟩)
  refine Am 15 (fun W=>qN (n1:qM).heap.size n1 W) kR ?_;refine tr 0 30 n3 D2 ?_;refine tr 1 31 n3 D2 ?_;refine tr 2 32 n6 D2 ?_;refine tr 3 33 n2 D2 ?_ (hy:=fun W h=>by obtain⟨⟨k0,k1,k2,k3,k4,k5,k6,k7,k8,k9⟩,k10,k11,k12,k13⟩:=(BX W h).1.jZ;go_simp);refine tr 4 34 n2 D2 ?_;refine tr 5 35 n9 D2 ?_;refine tr 6 36 (qV X.own.a X.own.n X.own.k) D2 ?_ (hy:=fun W h=>by have C:=(BX W h).2.1;have y5:W.cell? ⟨g,t*7+5,none⟩=some (qV X.own.a X.own.n X.own.k):=C.c5;go_simp);refine tr 7 37 n4 D2 ?_;refine tr 8 38 n4 D2 ?_;refine tr 9 39 n5 D2 ?_ (hy:=fun W h=>by have y:=(BX W h).2.2.2;go_simp);refine tr 10 40 n5 D2 ?_;refine tr 11 41 (pT (some ⟨q,u*10+7,none⟩)) D2 ?_;refine tr 12 42 (qV O.own.a O.own.n O.own.k) D2 ?_ (hy:=fun W h=>by have C:=(BX W h).2.2.1;have y5:W.cell? ⟨q,u*10+7,none⟩=some (qV O.own.a O.own.n O.own.k):=C.c7;go_simp);refine Ac (i:=13) kR rfl ?_;intro K hK;refine Ay qK 167 _ _ _ qK ET _ _ qK qK (some 43) qK _ P2 ?_;rintro v w3 ⟨a,k,rfl,o3,b3⟩;have V3:=qC (Af D2 b3);refine hK _ _ (fun _=>V3) ?_;clear hK K;simp only[ap,qF];refine tr 14 5 (qV a L.length k) V3 ?_;refine Ai kR ?_ _;have A3:=qC (Af B0 V3);have H3:=qC (HW.out.below A3);have sz:B<=w1.drew.heap.size:=qj hB A2.out.size;by_cases hl:10<L.length
  ·have i1:(10:Int)<(L.length:Int):=qQ;have e5:=(HE.out.below h14 (A3.out.mono hB) 5 qQ qQ).1;have LH:=qC hl;clear o3 b3 hl;go_wp2_with fail
   refine(De 5 314 (pT (some (E 5))) w3).mono ?_;rintro e w2 ⟨rfl,rfl⟩;go_wp2;go_ret;have b2:qN w3 w3 (w3.alloc (.cells #[.int .i64 5,.iface 314 (pT (some (E 5)))] 145)):=Bg w3 _;refine⟨_,rfl,X,by rw[HX.out,FE];exact H3.out.below b2,(Af A3 b2).mono hB,5,.inr ⟨by decide,_,5,rfl,Ag.new w3 _,by decide,by decide,by decide,qj hB A3.out.size⟩,.inl ⟨rfl,LH,rfl⟩⟩
  ·have i1:¬(10:Int)<(L.length:Int):=qQ;have LH:=qC hl;have cap:=Dj o3;have dn:=o3.new (qj cap.1 cap.2);obtain⟨S4,hBg,cur,hcu⟩:=H2.out.setOwn H3 (d:=⟨a,L.length,k,AZ L⟩) ht HX dn cap sz;have S4':=qC S4;have gf:=hcu.jC;obtain⟨⟨k0,k1,k2,k3,k4,k5,k6,k7,k8,k9⟩,k10,k11,k12,k13⟩:=H3.out.wk.jZ;have c5:w3.cell? ⟨g,t*7+5,none⟩=some (qV X.own.a X.own.n X.own.k):=(BX _ V3).2.1.c5;clear o3 b3 hl S4 dn cap;go_wp2;go_ret;exact⟨_,rfl,_,S4',(A3.out.mono hB).setCell hBg _,0,.inl ⟨rfl,rfl⟩,.inr ⟨rfl,Nat.not_lt.1 LH,a,k,rfl⟩⟩
section
variable {w:World}{B g co u:Nat}{vt:Value}{lt:List Ae}{lo:List Ab}{o:Ab}
def fE(W:World):Calls prog 98 #[.int .i64 6] W fun e w'=>∃x,e= rT x/\(x= .int .i64 1/\Below W W w'):=by
 go_enter func98,ntmps98
 go_wp2;go_ret;exact⟨_,rfl,rfl,Below.refl _ _⟩
def fL(W:World):Calls prog 98 #[.int .i64 7] W fun e w'=>∃x,e= rT x/\(x= .int .i64 1/\Below W W w'):=by
 go_enter func98,ntmps98
 go_wp2;go_ret;exact⟨_,rfl,rfl,Below.refl _ _⟩
def fG(W:World):Calls prog 98 #[.int .i64 8] W fun e w'=>∃x,e= rT x/\(x= .int .i64 1/\Below W W w'):=by
 go_enter func98,ntmps98
 go_wp2;go_ret;exact⟨_,rfl,rfl,Below.refl _ _⟩
def fz(W:World):Calls prog 98 #[.int .i64 9] W fun e w'=>∃x,e= rT x/\(x= .int .i64 2/\Below W W w'):=by
 go_enter func98,ntmps98
 go_wp2;go_ret;exact⟨_,rfl,rfl,Below.refl _ _⟩
def dB(W:World):Calls prog 98 #[.int .i64 10] W fun e w'=>∃x,e= rT x/\(x= .int .i64 2/\Below W W w'):=by
 go_enter func98,ntmps98
 go_wp2;go_ret;exact⟨_,rfl,rfl,Below.refl _ _⟩
def dC(W:World):Calls prog 98 #[.int .i64 13] W fun e w'=>∃x,e= rT x/\(x= .int .i64 4/\Below W W w'):=by
 go_enter func98,ntmps98
 go_wp2;go_ret;exact⟨_,rfl,rfl,Below.refl _ _⟩
def fi(W:World):Calls prog 98 #[.int .i64 15] W fun e w'=>∃x,e= rT x/\(x= .int .i64 3/\Below W W w'):=by
 go_enter func98,ntmps98
 go_wp2;go_ret;exact⟨_,rfl,rfl,Below.refl _ _⟩
def Bz.setData(h:Bz w B vt (.slice g lo.length co) lt lo){d:ByteArray}(hu:u<lo.length)(ho:o=lo[u]):
 Bz (w.setCell ⟨g,u*10+5,none⟩ (.string d)) B vt (.slice g lo.length co) lt (lo.set u ⟨o.id,o.kind,o.up,o.b1,o.c1,d,o.jA,o.own,o.b2,o.c2⟩)/\(∃cur,Ag w g (.cells cur 59))/\B<=g:=by
 have hn:=h.on _ (qk hu);have hc:=h.oc _ (qk hu);rw[<-ho]at hn hc;obtain⟨k1,hcur,hg⟩:=h.setO (x:=⟨o.id,o.kind,o.up,o.b1,o.c1,d,o.jA,o.own,o.b2,o.c2⟩) (u:= .string d) hu (i:=5) qQ (by rw[<-ho];rfl) hn hc;have el:(lo.set u (⟨o.id,o.kind,o.up,o.b1,o.c1,d,o.jA,o.own,o.b2,o.c2⟩:Ab)).length=lo.length:=by simp
 rw[el]at k1;exact⟨k1,hcur,hg⟩
def Bz.setItems(h:Bz w B vt (.slice g lo.length co) lt lo){d:AE}(hu:u<lo.length)(ho:o=lo[u])(hd:d.new B w)(hdc:d.n<=d.k/\d.k<=maxLen):
 Bz (w.setCell ⟨g,u*10+6,none⟩ (.slice d.a d.n d.k)) B vt (.slice g lo.length co) lt (lo.set u ⟨o.id,o.kind,o.up,o.b1,o.c1,o.data,d,o.own,o.b2,o.c2⟩)/\(∃cur,Ag w g (.cells cur 59))/\B<=g:=by
 have hn:=h.on _ (qk hu);have hc:=h.oc _ (qk hu);rw[<-ho]at hn hc;obtain⟨k1,hcur,hg⟩:=h.setO (x:=⟨o.id,o.kind,o.up,o.b1,o.c1,o.data,d,o.own,o.b2,o.c2⟩) (u:= .slice d.a d.n d.k) hu (i:=6) qQ (by rw[<-ho];rfl) ⟨hn.1,hd,hn.2.2.1,hn.2.2.2⟩ hdc;have el:(lo.set u (⟨o.id,o.kind,o.up,o.b1,o.c1,o.data,d,o.own,o.b2,o.c2⟩:Ab)).length=lo.length:=by simp
 rw[el]at k1;exact⟨k1,hcur,hg⟩
def BF(X:Ae)(lo:List Ab)(x:Int)(k:Int):Option Nat:=match Hq lo x with
 |none=>none
 |some u=>if (decide ((Aa lo u).kind=k)&&H9 X (Aa lo u).b1 (Aa lo u).c1)=true then some u else none
def Ew{X:Ae}{x k:Int}(h:BF X lo x k=some u):Hq lo x=some u/\∃hu:u<lo.length,(lo[u]'hu).id=x/\(lo[u]'hu).kind=k/\H9 X (lo[u]'hu).b1 (lo[u]'hu).c1=true:=by
 unfold BF at h;cases e:Hq lo x with
 |none=>rw[e]at h;cases h
 |some v=>
  rw[e]at h;simp only at h;split at h
  ·rename_i hh;cases h;obtain⟨hu,e2⟩:=Ht e;have eo:Aa lo u=lo[u]:=(by simp[Aa,hu]);rw[eo]at hh;simp only[Bool.and_eq_true,decide_eq_true_eq]at hh;exact⟨rfl,hu,e2,hh.1,hh.2⟩
  ·cases h
end
open Go.Value renaming string→sT
open _root_.List renaming perm_append_comm→jz
section
variable {wr:qM}{B P g ca q co t:Nat}{s:Aj}{lt:List Ae}{lo:List Ab}{m:Value}
def Fg.setQ(h:Fg wr B P s g ca q co lt lo t m):P≠q:=fun e=>by
 have ho:=h.st.o;rcases ho.2 with⟨hv,_⟩|⟨g',cap,cur,hv,_,hgg,_⟩
 ·cases hv
 ·cases hv;have hw:=h.wk;unfold Ag at hw;rw[e,hgg]at hw;simp at hw
def Fg.setData(h:Fg wr B P s g ca q co lt lo t m){d:ByteArray}{u:Nat}(hu:u<lo.length){O:Ab}(hO:O=lo[u]):
 Fg (wr.setCell ⟨q,u*10+5,none⟩ (sT d)) B P s g ca q co lt (lo.set u ⟨O.id,O.kind,O.up,O.b1,O.c1,d,O.jA,O.own,O.b2,O.c2⟩) t m/\B<=q/\∃cur,Ag wr q (.cells cur 59):=by
 obtain⟨k1,⟨cur,hc⟩,hg⟩:=h.st.setData (d:=d) hu hO;have el:(lo.set u (⟨O.id,O.kind,O.up,O.b1,O.c1,d,O.jA,O.own,O.b2,O.c2⟩:Ab)).length=lo.length:=by simp
 have hn:O.cb.Nodup:=Dr (L:=lo.map Ab.cb) (S:=(lt.map Ae.cb).flatten) (t:=u) (by simp[hu,hO]) (jz.nodup_iff.2 h.ap.c);have hi:O.own.bs.Nodup:=Dr (L:=lo.map fun x=>x.own.bs) (S:=(lt.map fun x=>x.own.bs).flatten) (t:=u) (by simp[hu,hO]) (jz.nodup_iff.2 h.ap.i);have hs:O.jA.bs.Nodup:=Dr (L:=lo.map fun x=>x.jA.bs) (S:=[]) (t:=u) (by simp[hu,hO]) (by rw[List.append_nil];exact h.ap.s);exact⟨⟨by rw[el];exact k1,h.ap.setO h.st hu (x:=⟨O.id,O.kind,O.up,O.b1,O.c1,d,O.jA,O.own,O.b2,O.c2⟩) hn (fun b hb=> .inl (by rw[<-hO];exact hb)) hi (fun b hb=> .inl (by rw[<-hO];exact hb)) hs (fun b hb=> .inl (by rw[<-hO];exact hb)),by rw[el];exact h.wk.other (Ne.symm h.setQ) _,h.lp⟩,hg,cur,hc⟩
def Mo(w:qM)(B P:Nat)(s:Aj)(g ca q co:Nat)(lt:List Ae)(lo:List Ab)(t:Nat)(m:Value)(h:Fg w B P s g ca q co lt lo t m)(hB:B<=w.heap.size)(u:Nat)(hu:u<lo.length)(O:Ab)(hO:O=lo[u])(hd:∀x∈lo,x.data.size<=maxLen)(hk:s.kind=6):
 Calls prog 185 #[pT P,.agg #[pT (some ⟨q,u*10,none⟩)]] w fun e w'=>e= .returned (.tuple #[sT ⟨#[]⟩,.nilIface])/\Fg w' B P s g ca q co lt (lo.set u ⟨O.id,O.kind,O.up,O.b1,O.c1,s.data,O.jA,O.own,O.b2,O.c2⟩) t m/\Below B w w':=by
 obtain⟨CO,ql⟩:=h.st.jF hu hd;rw[<-hO]at CO;have n1:Nw (w.alloc (.cells #[pT (some ⟨q,u*10,none⟩)] 250)):=⟨⟩;have b0:Below w w n1:=Bg w _;have c0:(n1:qM).cell? ⟨w,0,none⟩=some (pT (some ⟨q,u*10,none⟩)):=by go_simp
 obtain⟨⟨k0,k1,k2,k3,k4,k5,k6,k7,k8,k9⟩,k10,k11,k12,k13⟩:=(h.wk.below b0).jZ;have y5:(n1:qM).cell? ⟨q,u*10+5,none⟩=some (sT O.data):=(CO.below ql b0).c5;have HA:=qC (h.below b0);have B0:=qC b0;have HO:=qC hO;rw[hk]at k1;have z0:(n1:qM).drew.cell? ⟨w,0,none⟩=some (pT (some ⟨q,u*10,none⟩)):=c0;have z5:(n1:qM).drew.cell? ⟨q,u*10+5,none⟩=some (sT O.data):=y5;have zk:(n1:qM).drew.cell? ⟨P,5,none⟩=some (sT s.data):=k5;have HD:=qC (HA.out.below (Below.refl _ _).drew);obtain⟨S1,hg,cur,hcu⟩:=HD.out.setData (d:=s.data) hu HO.out;have S1':=qC S1;have gf:=hcu.jC;have B1:=qC (((B0.out.drew).mono hB).setCell (p:=⟨q,u*10+5,none⟩) hg (sT s.data));clear h hO CO b0 S1 hk;go_enter func185,ntmps185
 go_upto_region 3 with fail
 generalize (n1:qM)=V at *;go_region_law fail
 all_goals(
  go_wp2;go_ret2;exact⟨rfl,S1',B1⟩)
def NV(w:qM)(B P:Nat)(s:Aj)(g ca q co:Nat)(lt:List Ae)(lo:List Ab)(t:Nat)(m:Value)(h:Fg w B P s g ca q co lt lo t m)(hB:B<=w.heap.size)(u:Nat)(hu:u<lo.length)(O:Ab)(hO:O=lo[u])(hd:∀x∈lo,x.data.size<=maxLen)(hk:s.kind=7):
 Calls prog 185 #[pT P,.agg #[pT (some ⟨q,u*10,none⟩)]] w fun e w'=>e= .returned (.tuple #[sT O.data,.nilIface])/\Fg w' B P s g ca q co lt lo t m/\Below B w w':=by
 obtain⟨CO,ql⟩:=h.st.jF hu hd;rw[<-hO]at CO;have n1:Nw (w.alloc (.cells #[pT (some ⟨q,u*10,none⟩)] 250)):=⟨⟩;have b0:Below w w n1:=Bg w _;have c0:(n1:qM).cell? ⟨w,0,none⟩=some (pT (some ⟨q,u*10,none⟩)):=by go_simp
 obtain⟨⟨k0,k1,k2,k3,k4,k5,k6,k7,k8,k9⟩,k10,k11,k12,k13⟩:=(h.wk.below b0).jZ;have y5:(n1:qM).cell? ⟨q,u*10+5,none⟩=some (sT O.data):=(CO.below ql b0).c5;have HA:=qC (h.below b0);have B0:=qC b0;have HO:=qC hO;rw[hk]at k1;have B1:=qC (B0.out.mono hB);clear h hO CO b0 hk;go_enter func185,ntmps185
 go_wp2;go_ret2;exact⟨rfl,HA,B1⟩
def NM(w:qM)(B P:Nat)(s:Aj)(g ca q co:Nat)(lt:List Ae)(lo:List Ab)(t:Nat)(m:Value)(h:Fg w B P s g ca q co lt lo t m)(u:Nat)(hu:u<lo.length)(O:Ab)(hO:O=lo[u])(hd:∀x∈lo,x.data.size<=maxLen)(hk:s.kind=8)(R:Value->qM->Prop)
 (CT:Calls prog 202 #[pT P,.agg #[pT (some ⟨q,u*10,none⟩)]] (w.alloc (.cells #[pT (some ⟨q,u*10,none⟩)] 250)) fun e w'=>∃v,e= .returned v/\R v w'):
 Calls prog 185 #[pT P,.agg #[pT (some ⟨q,u*10,none⟩)]] w fun e w'=>∃v,e= .returned (.tuple #[sT ⟨#[]⟩,v])/\R v w':=by
 obtain⟨CO,ql⟩:=h.st.jF hu hd;rw[<-hO]at CO;have n1:Nw (w.alloc (.cells #[pT (some ⟨q,u*10,none⟩)] 250)):=⟨⟩;have b0:Below w w n1:=Bg w _;have c0:(n1:qM).cell? ⟨w,0,none⟩=some (pT (some ⟨q,u*10,none⟩)):=by go_simp
 obtain⟨⟨k0,k1,k2,k3,k4,k5,k6,k7,k8,k9⟩,k10,k11,k12,k13⟩:=(h.wk.below b0).jZ;have y5:(n1:qM).cell? ⟨q,u*10+5,none⟩=some (sT O.data):=(CO.below ql b0).c5;have HA:=qC (h.below b0);have B0:=qC b0;have HO:=qC hO;rw[hk]at k1;have HC:=qC CT;clear h hO CO b0 hk CT;go_enter func185,ntmps185
 go_wp2_with fail
 refine HC.out.mono ?_;rintro e w1 ⟨v,rfl,r⟩;have HR:=qC r;clear r;go_wp2;go_ret2;exact⟨v,rfl,HR⟩
end
def JY(n:Nat)(f:Nat->ByteArray):List Value:=(List.range n).map (fun i=>Value.string (f i))
def ar{n:Nat}{f:Nat->ByteArray}:∀u∈JY n f,u.oneCell'=true:=fun u hu=>by obtain⟨y,_,rfl⟩:=List.mem_map.1 hu;rfl
def Dw(n:Nat)(f:Nat->ByteArray)(y:ByteArray)(i:Nat):ByteArray:=if i<n then f i else y
def Rl(n:Nat)(f:Nat->ByteArray)(y:ByteArray):JY (n+1) (Dw n f y)=JY n f++[.string y]:=by
 unfold JY;rw[List.range_succ,List.map_append];congr 1
 ·refine List.map_congr_left fun i hi=>?_;have:i<n:=List.mem_range.1 hi;simp[Dw,this]
 ·simp[Dw]
abbrev FV(w:qM)(B:Nat)(v:Value)(n:Nat)(f:Nat->ByteArray):Prop:=w.ownsRow B 9 1 v n (JY n f)
def FV.empty(w:qM)(B:Nat)(hb:B<=w.heap.size)(f:Nat->ByteArray):FV (w.alloc (.cells #[] 9)) B (qV (w) 0 0) 0 f:=World.ownsRow_made w #[] 0 hb (Nat.zero_le _) rfl
def FV.newL{w:qM}{B n c:Nat}{a:Option Addr}{f:Nat->ByteArray}(h:FV w B (qV a n c) n f)(hn:n<=1048576)(hz:∀i,i<n->(f i).size<=maxLen):AE.new B w ⟨a,n,c,f⟩/\(n<=c/\c<=maxLen):=⟨Rn h hn hz,Dj h⟩
def P8{w w':qM}{row:Option Nat}{b off n:Nat}{cs:List Value}(h:Bl w (some ⟨b,off,none⟩) n cs)(g:w.grownBy w' row)(hne:row≠some b):Bl w' (some ⟨b,off,none⟩) n cs:=fun hn=>by
 obtain⟨b',off',e,hlt,hc⟩:=h hn;have e1:b=b':=by cases e;rfl
 have e2:off=off':=by cases e;rfl
 subst e1;subst e2;exact⟨b,off,rfl,Nat.lt_of_lt_of_le hlt g.size,fun j u hu=>by
  rw[World.cell?_of_block (a:=⟨b,off+j,none⟩) (g.block b hlt (fun e=>hne e.symm))];exact hc j u hu⟩
def Jr(w:qM)(x:ByteArray):Bl (w.alloc (.cells #[.string x] 9)) (some ⟨w,0,none⟩) 1 [.string x]:=fun _=>
 ⟨w,0,rfl,by simp,fun j u hu=>by
   cases j with
   |zero=>simp at hu;subst hu;simp
   |succ j=>simp at hu⟩
def Fq{ops:Array Oper}{o:Oper}{a:Act}{w:qM}{K:Act->qM->Prop}{Q:Exit->Act->qM->Prop}{E:Prop}(hgd:o.guard=none)(s x:Operand)
 (ho:o.op= .call {callee:= .builtin .append,args:=#[s,x],argTypes:=#[57,57]})
 (B:Nat)(g:Nat)(f0:Nat->ByteArray)(hs:a.eval s= qV g 0 0)(hown:FV w B (qV g 0 0) 0 f0)(ad:Option Addr)(m c:Nat)(f:Nat->ByteArray)(hx:a.eval x= qV ad m c)(hc:JL w ad m f)
 (hm:m<=1048576)(hB:B<=w.heap.size)(d:Option Nat)(hd:o.dst=d)
 (h:∀a' c' w',FV w' B (qV a' m c') m f->w.grownBy w' (some g)->K (a.put d (qV a' m c')) w'):
 if jU o (yielded ops a.tmps)=true then Oper.wp prog o a w K Q else E:=by
 have hw:jU o (yielded ops a.tmps)=true:=by simp[jU,hgd]
 rw[if_pos hw];refine DO underlying57 Tryz.info9 rfl qQ w s x ho B _ 0 [] hs hown ad m c (JY m f) hx (by simp[JY]) (Mm hc) ar qQ qQ hB fun a' c' w' h2 h3 _=>?_;rw[jk,List.nil_append]at h2;rw[jk,hd];exact h a' c' w' h2 h3
def Gy{ops:Array Oper}{o:Oper}{a:Act}{w:qM}{K:Act->qM->Prop}{Q:Exit->Act->qM->Prop}{E:Prop}(hgd:o.guard=none)(s x:Operand)
 (ho:o.op= .call {callee:= .builtin .append,args:=#[s,x],argTypes:=#[57,57]})
 (B:Nat)(v:Value)(n:Nat)(f:Nat->ByteArray)(hs:a.eval s=v)(hown:FV w B v n f)(ad:Option Addr)(c:Nat)(y:ByteArray)(hx:a.eval x= qV ad 1 c)(hc:Bl w ad 1 [.string y])
 (hm:n<=1048576)(hB:B<=w.heap.size)(d:Option Nat)(hd:o.dst=d)
 (h:∀a' c' w',FV w' B (qV a' (n+1) c') (n+1) (Dw n f y)->w.grownBy w' v.ownBlock->K (a.put d (qV a' (n+1) c')) w'):
 if jU o (yielded ops a.tmps)=true then Oper.wp prog o a w K Q else E:=by
 have hw:jU o (yielded ops a.tmps)=true:=by simp[jU,hgd]
 rw[if_pos hw];refine DO underlying57 Tryz.info9 rfl qQ w s x ho B v n (JY n f) hs hown ad 1 c [.string y] hx rfl hc (fun u hu=>by simp at hu;subst hu;rfl) qQ qQ hB fun a' c' w' h2 h3 _=>?_;rw[<-Rl]at h2;rw[hd];exact h a' c' w' h2 h3
open Go.World renaming ownsRow→qq
open Go renaming Value→qB
section
variable {w w':qM}{B:Nat}{row:Option Nat}
def As.new.jY{c:As}(h:c.new B w)(hr:∀b,row=some b->∃m F,w.rowIs b 9 m F)(hg:w.grownBy w' row):c.new B w':=h.of hg.size (fun b' e hn=>by
 obtain⟨b'',m',F',e',_,_,hr'⟩:=h.2 hn;rw[e]at e';cases e';refine hg.block b' hr'.lt (fun ee=>?_);obtain⟨m,F,h9⟩:=hr b' ee.symm;exact Fz hr' h9 qX rfl)
def AJ.new.jY{c:AJ}(h:c.new B w)(hr:∀b,row=some b->∃m F,w.rowIs b 9 m F)(hg:w.grownBy w' row):c.new B w':=h.of hg.size (fun b' e hn=>by
 obtain⟨b'',m',F',e',_,_,hr'⟩:=h.2 hn;rw[e]at e';cases e';refine hg.block b' hr'.lt (fun ee=>?_);obtain⟨m,F,h9⟩:=hr b' ee.symm;exact Fz hr' h9 qX rfl)
def AE.new.jY{c:AE}(h:c.new B w)(hr:∀b,row=some b->b∉c.bs)(hg:w.grownBy w' row):c.new B w':=h.of hg.size (fun b' e h0=>by
 obtain⟨b'',m',F',e',_,_,hr'⟩:=h.2 h0;rw[e]at e';cases e';refine hg.block b' hr'.lt (fun ee=>hr b' ee.symm ?_);unfold AE.bs;rw[if_pos h0,e];simp)
end
def Bz.itemRow{w w':qM}{B q co:Nat}{vt:qB}{row:Option Nat}{lt:List Ae}{lo:List Ab}(h:Bz w B vt (qV q lo.length co) lt lo)(ha:Apart lt lo){u:Nat}(hu:u<lo.length){O:Ab}(hO:O=lo[u])(hr:∀b,row=some b->b∈O.jA.bs/\∃m F,w.rowIs b 9 m F)(hg:w.grownBy w' row){d:AE}(hd:d.new B w')(hdc:d.n<=d.k/\d.k<=maxLen):
 Bz (w'.setCell ⟨q,u*10+6,none⟩ (qV d.a d.n d.k)) B vt (qV q lo.length co) lt (lo.set u ⟨O.id,O.kind,O.up,O.b1,O.c1,O.data,d,O.own,O.b2,O.c2⟩)/\(∃cur,Ag w' q (.cells cur 59))/\B<=q:=by
 have hx:=h.on _ (qk hu);rw[<-hO]at hx;have h9:∀b,row=some b->∃m F,w.rowIs b 9 m F:=fun b e=>(hr b e).2;have other:∀{v:qB}{ty:TypeId}{sz n:Nat}{cs:List qB},w.ownsRow B ty sz v n cs->ty≠9->v.ownBlock=none∨v.ownBlock≠row:=fun{v ty sz n cs} ho hty=>by
  rcases ho.2 with⟨hv,_⟩|⟨g',cap,cur,hv,_,hgg,_⟩
  ·exact .inl (by rw[hv];rfl)
  ·refine .inr (fun e=>hty ?_);rw[hv]at e;obtain⟨m,F,c,hc,_⟩:=h9 g' (by rw[<-e];rfl);rw[hgg]at hc;simp at hc;exact hc.2
 have it:(lo.map fun x=>x.jA.bs)[u]? =some O.jA.bs:=by simp[hu,hO]
 have kt:Du w' B vt lt:=qq.kept h.t hg (other h.t qX);have ko:AW w' B (qV q lo.length co) lo:=qq.kept h.o hg (other h.o qX);have ton:∀y∈lt,y.new B w':=fun y hy=>⟨(h.tn y hy).1.jY h9 hg,(h.tn y hy).2.1.jY h9 hg,(h.tn y hy).2.2.jY h9 hg⟩;have oon:∀j (hj:j<lo.length),j≠u->(lo[j]).new B w':=fun j hj ne=>by
  have hy:=h.on _ (qk hj);refine⟨hy.1.jY h9 hg,hy.2.1.jY (fun b e hb=>?_) hg,hy.2.2.1.jY h9 hg,hy.2.2.2.jY h9 hg⟩;exact Oa ha.s (i:=j) (j:=u) (by simp[hj]) it ne hb (hr b e).1
 obtain⟨cur,hcur⟩:∃cur,Ag w' q (.cells cur 59):=by
  rcases ko.2 with⟨hv,_⟩|⟨g',cap,cur,hv,_,hgg,_⟩
  ·cases hv
  ·cases hv;exact⟨cur,hgg⟩
 have hBg:B<=q:=(qq.lt ko q rfl).1;have kl:=Aq (i:=u*10+6) hcur qX (qV d.a d.n d.k);have ho:=(qq.stored ko (u*10+6) (qV d.a d.n d.k)).1;have hxn:(⟨O.id,O.kind,O.up,O.b1,O.c1,O.data,d,O.own,O.b2,O.c2⟩:Ab).new B w':=⟨hx.1.jY h9 hg,hd,hx.2.2.1.jY h9 hg,hx.2.2.2.jY h9 hg⟩;refine⟨⟨kt.set hcur qX _,?_,fun y hy=>(ton y hy).keeps kl,fun y hy=>?_,h.tc,fun y hy=>?_⟩,⟨cur,hcur⟩,hBg⟩
 ·unfold AW;have e:=Dl (f:=Ab.cs) Ab.jK (l:=lo) (t:=u) (x:=(⟨O.id,O.kind,O.up,O.b1,O.c1,O.data,d,O.own,O.b2,O.c2⟩:Ab)) (u:= qV d.a d.n d.k) (i:=6) hu qQ (by rw[<-hO];rfl);have el:(lo.set u (⟨O.id,O.kind,O.up,O.b1,O.c1,O.data,d,O.own,O.b2,O.c2⟩:Ab)).length=lo.length:=by simp
  rw[el];unfold Ax;rw[<-e];exact ho
 ·obtain⟨j,hj,rfl⟩:=List.getElem_of_mem hy;rw[List.getElem_set];split
  ·exact hxn.keeps kl
  ·exact(oon j (by simpa using hj) qQ).keeps kl
 ·rcases G8 hy with rfl|hy
  ·exact hdc
  ·exact h.oc y hy
def Fg.itemRow{w w':qM}{B P:Nat}{s:Aj}{g ca q co:Nat}{lt:List Ae}{lo:List Ab}{t:Nat}{m:qB}{row:Option Nat}(h:Fg w B P s g ca q co lt lo t m){u:Nat}(hu:u<lo.length){O:Ab}(hO:O=lo[u])(hr:∀b,row=some b->b∈O.jA.bs/\∃m F,w.rowIs b 9 m F)(hg:w.grownBy w' row){d:AE}(hd:d.new B w')(hdc:d.n<=d.k/\d.k<=maxLen)(hdb:∀b∈d.bs,b∈O.jA.bs∨w.heap.size<=b):
 Fg (w'.setCell ⟨q,u*10+6,none⟩ (qV d.a d.n d.k)) B P s g ca q co lt (lo.set u ⟨O.id,O.kind,O.up,O.b1,O.c1,O.data,d,O.own,O.b2,O.c2⟩) t m/\(∃cur,Ag w' q (.cells cur 59))/\B<=q/\Ag w' P (.cells (IN s g lt.length ca q lo.length co t m) 175)/\(∀b,row=some b->B<=b/\b≠q/\b≠P):=by
 obtain⟨k1,hcu,hBg⟩:=h.st.itemRow h.ap hu hO hr hg hd hdc;have el:(lo.set u (⟨O.id,O.kind,O.up,O.b1,O.c1,O.data,d,O.own,O.b2,O.c2⟩:Ab)).length=lo.length:=by simp
 have hn:O.cb.Nodup:=Dr (L:=lo.map Ab.cb) (S:=(lt.map Ae.cb).flatten) (t:=u) (by simp[hu,hO]) (jz.nodup_iff.2 h.ap.c);have hi:O.own.bs.Nodup:=Dr (L:=lo.map fun x=>x.own.bs) (S:=(lt.map fun x=>x.own.bs).flatten) (t:=u) (by simp[hu,hO]) (jz.nodup_iff.2 h.ap.i);have hx:=h.st.on _ (qk hu);rw[<-hO]at hx;have rw_:∀b,row=some b->B<=b/\b≠q/\b≠P:=fun b e=>by
  obtain⟨h1,m',F,c,hc,_⟩:=hr b e;refine⟨(hx.2.1.bs.2 b h1).1,fun e'=>?_,fun e'=>?_⟩
  ·rcases h.st.o.2 with⟨hv,_⟩|⟨g',cap,cur',hv,_,hgg,_⟩
   ·cases hv
   ·cases hv;rw[<-e',hc]at hgg;simp at hgg
  ·have hw:=h.wk;unfold Ag at hw;rw[<-e',hc]at hw;simp at hw
 have wk:Ag w' P (.cells (IN s g lt.length ca q lo.length co t m) 175):=h.wk.grown hg (fun e=>(rw_ P e.symm).2.2 rfl);exact⟨⟨by rw[el];exact k1,h.ap.setO h.st hu (x:=⟨O.id,O.kind,O.up,O.b1,O.c1,O.data,d,O.own,O.b2,O.c2⟩) hn (fun b hb=> .inl (by rw[<-hO];exact hb)) hi (fun b hb=> .inl (by rw[<-hO];exact hb)) hd.bs.1 (fun b hb=>by rw[<-hO];exact hdb b hb),by rw[el];exact wk.other (Ne.symm h.setQ) _,h.lp⟩,hcu,hBg,wk,rw_⟩
def AE.jH(B:Nat)(w:qM)(c:AE):Prop:=c.at w/\(0<c.n->∃b off m F,c.a=some ⟨b,off,none⟩/\B<=b/\off+c.n<=m/\w.rowIs b 9 m F)
def AE.new.f{B:Nat}{w:qM}{c:AE}(h:c.new B w):c.jH B w:=⟨h.1,fun h0=>by
 obtain⟨b,m,F,e,h1,h2,h3⟩:=h.2 h0;exact⟨b,0,m,F,e,h1,by omega,h3⟩⟩
def AE.jH.of{B:Nat}{w w':qM}{c:AE}(h:c.jH B w)(hs:w.heap.size<=w'.heap.size)(hb:∀b∈c.bs,w'.heap[b]? =w.heap[b]?):c.jH B w':=
 ⟨⟨h.1.1,fun hn=>by
   obtain⟨b,off,e,hlt,hc⟩:=h.1.2.1 hn;have hm:b∈c.bs:=(by unfold AE.bs;rw[if_pos hn,e];simp);exact⟨b,off,e,Nat.lt_of_lt_of_le hlt hs,fun i hi=>by rw[World.cell?_of_block (a:=⟨b,off+i,none⟩) (hb b hm)];exact hc i hi⟩,h.1.2.2⟩,fun hn=>by
   obtain⟨b,off,m,F,e,h1,h2,h3⟩:=h.2 hn;have hm:b∈c.bs:=(by unfold AE.bs;rw[if_pos hn,e];simp);exact⟨b,off,m,F,e,h1,h2,h3.of_block (hb b hm)⟩⟩
def AE.jH.lt{B:Nat}{w:qM}{c:AE}(h:c.jH B w):∀b∈c.bs,B<=b/\b<w.heap.size:=fun b hb=>by
 unfold AE.bs at hb;split at hb
 ·rename_i h0;obtain⟨b',off,m,F,e,h1,_,h3⟩:=h.2 h0;rw[e]at hb;rw[List.mem_singleton.1 hb];exact⟨h1,h3.lt⟩
 ·cases hb
def AE.jH.below{B:Nat}{w w':qM}{c:AE}(h:c.jH B w)(hb:Below w w w'):c.jH B w':=h.of hb.size (fun b hm=>hb.block b (h.lt b hm).2)
def Ab.jH(B:Nat)(w:qM)(t:Ab):Prop:=t.c1.new B w/\t.jA.jH B w/\t.own.new B w/\t.c2.new B w
def Ab.jH.at{B:Nat}{w:qM}{t:Ab}(h:t.jH B w)(hd:t.data.size<=maxLen):t.at w:=⟨h.1.1,h.2.1.1,h.2.2.1.1,h.2.2.2.1,hd⟩
structure Ho(w:qM)(B:Nat)(vt vo:qB)(lt:List Ae)(lo:List Ab):Prop where
 t:Du w B vt lt
 o:AW w B vo lo
 tn:∀x∈lt,x.new B w
 on:∀x∈lo,x.jH B w
def Bz.f{w:qM}{B:Nat}{vt vo:qB}{lt:List Ae}{lo:List Ab}(h:Bz w B vt vo lt lo):Ho w B vt vo lt lo:=⟨h.t,h.o,h.tn,fun x hx=>⟨(h.on x hx).1,(h.on x hx).2.1.f,(h.on x hx).2.2⟩⟩
def Ho.below{w w':qM}{B:Nat}{vt vo:qB}{lt:List Ae}{lo:List Ab}(h:Ho w B vt vo lt lo)(hb:Below w w w'):Ho w' B vt vo lt lo:=
 ⟨h.t.below hb,h.o.below hb,fun x hx=>(h.tn x hx).keeps (Dk.of_below hb).l,fun x hx=>⟨(h.on x hx).1.below hb,(h.on x hx).2.1.below hb,(h.on x hx).2.2.1.below hb,(h.on x hx).2.2.2.below hb⟩⟩
structure Pk(wr:qM)(B P:Nat)(s:Aj)(g ca q co:Nat)(lt:List Ae)(lo:List Ab)(t:Nat)(m:qB):Prop where
 st:Ho wr B (qV g lt.length ca) (qV q lo.length co) lt lo
 ap:Apart lt lo
 wk:Ag wr P (.cells (IN s g lt.length ca q lo.length co t m) 175)
def Fg.f{wr:qM}{B P:Nat}{s:Aj}{g ca q co:Nat}{lt:List Ae}{lo:List Ab}{t:Nat}{m:qB}(h:Fg wr B P s g ca q co lt lo t m):Pk wr B P s g ca q co lt lo t m:=⟨h.st.f,h.ap,h.wk⟩
def Pk.below{wr w':qM}{B P:Nat}{s:Aj}{g ca q co:Nat}{lt:List Ae}{lo:List Ab}{t:Nat}{m:qB}(h:Pk wr B P s g ca q co lt lo t m)(hb:Below wr wr w'):Pk w' B P s g ca q co lt lo t m:=⟨h.st.below hb,h.ap,h.wk.below hb⟩
def QE(tmps:Array Value)(W:World)(P:Nat)(x y:Value)(h:Ag W P (.cells #[x,y] 42))(h2:tmps[2]? =some (.pointer P)):
 (results Tryz.f198 tmps).run prog W= .ok (.agg #[x,y]) W:=by
 obtain⟨z0,z1⟩:=h.two;simp[results,Tryz.results198,go_sem,h2,z0,z1]
def MC(q j:Nat)(b:Int)(c:As)(w:World)(hq:q<w.heap.size)(h3:w.cell? ⟨q,j+3,none⟩=some (.int .i64 b))(h4:w.cell? ⟨q,j+3+1,none⟩=some (.slice c.a c.n c.k)):
 Calls prog 198 #[.agg #[.pointer (some ⟨q,j,none⟩)]] w fun e w'=>e= .returned (.agg #[.int .i64 b,c])/\Below w w w':=by
 have n1:Nw (w.alloc (.cells #[.pointer (some ⟨q,j,none⟩)] 248)):=⟨⟩;have n2:No (.cells #[.int .i64 0,.slice none 0 0] 42):=⟨⟩;have b0:Below w w ((n1:World).alloc n2):=(Bg w _).alloc sI _;have R0:Ag ((n1:World).alloc n2) (w.heap.size+1) n2:=by
  have:=Ag.new n1 n2;simpa using this
 have e3:=(b0.cell (p:=⟨q,j+3,none⟩) hq).trans h3;have e4:=(b0.cell (p:=⟨q,j+3+1,none⟩) hq).trans h4;obtain⟨r0,r1⟩:=R0.two;have rf:=R0.jC;clear R0 b0;go_enter func198,ntmps198
 go_wp2;refine bodyPost_ret (QE _ _ (w.heap.size+1) (.int .i64 b) (.slice c.a c.n c.k) (by have:=Ag.new n1 (.cells #[.int .i64 b,c] 42);simpa using this) rfl) rfl ⟨rfl,?_⟩;exact(Bg w _).alloc sI _
open Go.Value renaming tuple→qW
def bL(x:TypeId)(w:qM):(Instr.typeAssert .nilIface x 250 true).run prog w= .ok (qW #[.agg #[.pointer none],.bool false]) w:=by
 have hu:∀w,(underlying 250).run prog w= .ok _ w:=fun w=>by simp[underlying,go_sem,underlying250];rfl
 simp[Instr.typeAssert,go_sem,hu,zeroValue250]
def Rw(x:TypeId)(v:Value)(w:qM):(Instr.typeAssert (.iface 250 v) x 250 true).run prog w= .ok (qW #[v,.bool true]) w:=by
 have hu:∀w,(underlying 250).run prog w= .ok _ w:=fun w=>by simp[underlying,go_sem,underlying250];rfl
 simp[Instr.typeAssert,go_sem,hu]
def Sn(x:TypeId)(t:TypeId)(v:Value)(w:qM)(h:t≠250):(Instr.typeAssert (.iface t v) x 250 true).run prog w= .ok (qW #[.agg #[.pointer none],.bool false]) w:=by
 have hu:∀w,(underlying 250).run prog w= .ok _ w:=fun w=>by simp[underlying,go_sem,underlying250];rfl
 simp[Instr.typeAssert,go_sem,hu,zeroValue250,h]
def cV(x:TypeId)(v:Value)(w:qM):(Instr.typeAssert (.iface 252 v) x 252 true).run prog w= .ok (qW #[v,.bool true]) w:=by
 have hu:∀w,(underlying 252).run prog w= .ok _ w:=fun w=>by simp[underlying,go_sem,underlying252];rfl
 simp[Instr.typeAssert,go_sem,hu]
def aj(x:TypeId)(t:TypeId)(v:Value)(w:qM)(h:t≠252):(Instr.typeAssert (.iface t v) x 252 true).run prog w= .ok (qW #[.agg #[.pointer none],.bool false]) w:=by
 have hu:∀w,(underlying 252).run prog w= .ok _ w:=fun w=>by simp[underlying,go_sem,underlying252];rfl
 simp[Instr.typeAssert,go_sem,hu,zeroValue252,h]
def bE(x:TypeId)(w:qM):(Instr.typeAssert .nilIface x 254 true).run prog w= .ok (qW #[.agg #[.pointer none],.bool false]) w:=by
 have hu:∀w,(underlying 254).run prog w= .ok _ w:=fun w=>by simp[underlying,go_sem,underlying254];rfl
 simp[Instr.typeAssert,go_sem,hu,zeroValue254]
def WX(x:TypeId)(v:Value)(w:qM):(Instr.typeAssert (.iface 254 v) x 254 true).run prog w= .ok (qW #[v,.bool true]) w:=by
 have hu:∀w,(underlying 254).run prog w= .ok _ w:=fun w=>by simp[underlying,go_sem,underlying254];rfl
 simp[Instr.typeAssert,go_sem,hu]
def YR(x:TypeId)(t:TypeId)(v:Value)(w:qM)(h:t≠254):(Instr.typeAssert (.iface t v) x 254 true).run prog w= .ok (qW #[.agg #[.pointer none],.bool false]) w:=by
 have hu:∀w,(underlying 254).run prog w= .ok _ w:=fun w=>by simp[underlying,go_sem,underlying254];rfl
 simp[Instr.typeAssert,go_sem,hu,zeroValue254,h]
def bo(x:TypeId)(v:Value)(w:qM):(Instr.typeAssert (.iface 256 v) x 256 true).run prog w= .ok (qW #[v,.bool true]) w:=by
 have hu:∀w,(underlying 256).run prog w= .ok _ w:=fun w=>by simp[underlying,go_sem,underlying256];rfl
 simp[Instr.typeAssert,go_sem,hu]
end Go.Proofs.YtdaccbddcjlkpaaGreatDoor
