import Derived.Test.YtdaccbddcjlkpaaGreatDoorZ9p
set_option maxRecDepth 100000
set_option maxHeartbeats 16000000
namespace Go.Proofs.YtdaccbddcjlkpaaGreatDoor
open Go Go.RowKit Go.Deep Go.Maps Go.BigFrame Go.Shelf Go.Proofs.Tryz
open Go.Ending renaming returned→rT
open _root_.List renaming getElem_mem→qk
section
variable {w:World}{B g co u:Nat}{vt:Value}{lt:List Ae}{lo:List Ab}{o:Ab}
theorem fE(W:World):Calls prog 98 #[.int .i64 6] W fun e w'=>∃x,e= rT x/\(x= .int .i64 1/\Below W W w'):=by
 go_enter func98,ntmps98
 go_wp2;go_ret;exact⟨_,rfl,rfl,Below.refl _ _⟩
theorem fL(W:World):Calls prog 98 #[.int .i64 7] W fun e w'=>∃x,e= rT x/\(x= .int .i64 1/\Below W W w'):=by
 go_enter func98,ntmps98
 go_wp2;go_ret;exact⟨_,rfl,rfl,Below.refl _ _⟩
theorem fG(W:World):Calls prog 98 #[.int .i64 8] W fun e w'=>∃x,e= rT x/\(x= .int .i64 1/\Below W W w'):=by
 go_enter func98,ntmps98
 go_wp2;go_ret;exact⟨_,rfl,rfl,Below.refl _ _⟩
theorem fz(W:World):Calls prog 98 #[.int .i64 9] W fun e w'=>∃x,e= rT x/\(x= .int .i64 2/\Below W W w'):=by
 go_enter func98,ntmps98
 go_wp2;go_ret;exact⟨_,rfl,rfl,Below.refl _ _⟩
theorem dB(W:World):Calls prog 98 #[.int .i64 10] W fun e w'=>∃x,e= rT x/\(x= .int .i64 2/\Below W W w'):=by
 go_enter func98,ntmps98
 go_wp2;go_ret;exact⟨_,rfl,rfl,Below.refl _ _⟩
theorem dC(W:World):Calls prog 98 #[.int .i64 13] W fun e w'=>∃x,e= rT x/\(x= .int .i64 4/\Below W W w'):=by
 go_enter func98,ntmps98
 go_wp2;go_ret;exact⟨_,rfl,rfl,Below.refl _ _⟩
theorem fi(W:World):Calls prog 98 #[.int .i64 15] W fun e w'=>∃x,e= rT x/\(x= .int .i64 3/\Below W W w'):=by
 go_enter func98,ntmps98
 go_wp2;go_ret;exact⟨_,rfl,rfl,Below.refl _ _⟩
theorem Bz.setData(h:Bz w B vt (.slice g lo.length co) lt lo){d:ByteArray}(hu:u<lo.length)(ho:o=lo[u]):
 Bz (w.setCell ⟨g,u*10+5,none⟩ (.string d)) B vt (.slice g lo.length co) lt (lo.set u ⟨o.id,o.kind,o.up,o.b1,o.c1,d,o.jA,o.own,o.b2,o.c2⟩)/\(∃cur,Ag w g (.cells cur 59))/\B<=g:=by
 have hn:=h.on _ (qk hu);have hc:=h.oc _ (qk hu);rw[<-ho]at hn hc;obtain⟨k1,hcur,hg⟩:=h.setO (x:=⟨o.id,o.kind,o.up,o.b1,o.c1,d,o.jA,o.own,o.b2,o.c2⟩) (u:= .string d) hu (i:=5) qQ (by rw[<-ho];rfl) hn hc;have el:(lo.set u (⟨o.id,o.kind,o.up,o.b1,o.c1,d,o.jA,o.own,o.b2,o.c2⟩:Ab)).length=lo.length:=by simp
 rw[el]at k1;exact⟨k1,hcur,hg⟩
theorem Bz.setItems(h:Bz w B vt (.slice g lo.length co) lt lo){d:AE}(hu:u<lo.length)(ho:o=lo[u])(hd:d.new B w)(hdc:d.n<=d.k/\d.k<=maxLen):
 Bz (w.setCell ⟨g,u*10+6,none⟩ (.slice d.a d.n d.k)) B vt (.slice g lo.length co) lt (lo.set u ⟨o.id,o.kind,o.up,o.b1,o.c1,o.data,d,o.own,o.b2,o.c2⟩)/\(∃cur,Ag w g (.cells cur 59))/\B<=g:=by
 have hn:=h.on _ (qk hu);have hc:=h.oc _ (qk hu);rw[<-ho]at hn hc;obtain⟨k1,hcur,hg⟩:=h.setO (x:=⟨o.id,o.kind,o.up,o.b1,o.c1,o.data,d,o.own,o.b2,o.c2⟩) (u:= .slice d.a d.n d.k) hu (i:=6) qQ (by rw[<-ho];rfl) ⟨hn.1,hd,hn.2.2.1,hn.2.2.2⟩ hdc;have el:(lo.set u (⟨o.id,o.kind,o.up,o.b1,o.c1,o.data,d,o.own,o.b2,o.c2⟩:Ab)).length=lo.length:=by simp
 rw[el]at k1;exact⟨k1,hcur,hg⟩
def BF(X:Ae)(lo:List Ab)(x:Int)(k:Int):Option Nat:=match Hq lo x with
 |none=>none
 |some u=>if (decide ((Aa lo u).kind=k)&&H9 X (Aa lo u).b1 (Aa lo u).c1)=true then some u else none
theorem Ew{X:Ae}{x k:Int}(h:BF X lo x k=some u):Hq lo x=some u/\∃hu:u<lo.length,(lo[u]'hu).id=x/\(lo[u]'hu).kind=k/\H9 X (lo[u]'hu).b1 (lo[u]'hu).c1=true:=by
 unfold BF at h;cases e:Hq lo x with
 |none=>rw[e]at h;cases h
 |some v=>
  rw[e]at h;simp only at h;split at h
  ·rename_i hh;cases h;obtain⟨hu,e2⟩:=Ht e;have eo:Aa lo u=lo[u]:=(by simp[Aa,hu]);rw[eo]at hh;simp only[Bool.and_eq_true,decide_eq_true_eq]at hh;exact⟨rfl,hu,e2,hh.1,hh.2⟩
  ·cases h
end
open Go.Value renaming pointer→pT,string→sT
open _root_.List renaming perm_append_comm→jz
open Go renaming World→qM
section
variable {wr:qM}{B P g ca q co t:Nat}{s:Aj}{lt:List Ae}{lo:List Ab}{m:Value}
theorem Fg.setQ(h:Fg wr B P s g ca q co lt lo t m):P≠q:=fun e=>by
 have ho:=h.st.o;rcases ho.2 with⟨hv,_⟩|⟨g',cap,cur,hv,_,hgg,_⟩
 ·cases hv
 ·cases hv;have hw:=h.wk;unfold Ag at hw;rw[e,hgg]at hw;simp at hw
theorem Fg.setData(h:Fg wr B P s g ca q co lt lo t m){d:ByteArray}{u:Nat}(hu:u<lo.length){O:Ab}(hO:O=lo[u]):
 Fg (wr.setCell ⟨q,u*10+5,none⟩ (sT d)) B P s g ca q co lt (lo.set u ⟨O.id,O.kind,O.up,O.b1,O.c1,d,O.jA,O.own,O.b2,O.c2⟩) t m/\B<=q/\∃cur,Ag wr q (.cells cur 59):=by
 obtain⟨k1,⟨cur,hc⟩,hg⟩:=h.st.setData (d:=d) hu hO;have el:(lo.set u (⟨O.id,O.kind,O.up,O.b1,O.c1,d,O.jA,O.own,O.b2,O.c2⟩:Ab)).length=lo.length:=by simp
 have hn:O.cb.Nodup:=Dr (L:=lo.map Ab.cb) (S:=(lt.map Ae.cb).flatten) (t:=u) (by simp[hu,hO]) (jz.nodup_iff.2 h.ap.c);have hi:O.own.bs.Nodup:=Dr (L:=lo.map fun x=>x.own.bs) (S:=(lt.map fun x=>x.own.bs).flatten) (t:=u) (by simp[hu,hO]) (jz.nodup_iff.2 h.ap.i);have hs:O.jA.bs.Nodup:=Dr (L:=lo.map fun x=>x.jA.bs) (S:=[]) (t:=u) (by simp[hu,hO]) (by rw[List.append_nil];exact h.ap.s);exact⟨⟨by rw[el];exact k1,h.ap.setO h.st hu (x:=⟨O.id,O.kind,O.up,O.b1,O.c1,d,O.jA,O.own,O.b2,O.c2⟩) hn (fun b hb=> .inl (by rw[<-hO];exact hb)) hi (fun b hb=> .inl (by rw[<-hO];exact hb)) hs (fun b hb=> .inl (by rw[<-hO];exact hb)),by rw[el];exact h.wk.other (Ne.symm h.setQ) _,h.lp⟩,hg,cur,hc⟩
theorem Mo(w:qM)(B P:Nat)(s:Aj)(g ca q co:Nat)(lt:List Ae)(lo:List Ab)(t:Nat)(m:Value)(h:Fg w B P s g ca q co lt lo t m)(hB:B<=w.heap.size)(u:Nat)(hu:u<lo.length)(O:Ab)(hO:O=lo[u])(hd:∀x∈lo,x.data.size<=maxLen)(hk:s.kind=6):
 Calls prog 185 #[pT P,.agg #[pT (some ⟨q,u*10,none⟩)]] w fun e w'=>e= .returned (.tuple #[sT ⟨#[]⟩,.nilIface])/\Fg w' B P s g ca q co lt (lo.set u ⟨O.id,O.kind,O.up,O.b1,O.c1,s.data,O.jA,O.own,O.b2,O.c2⟩) t m/\Below B w w':=by
 obtain⟨CO,ql⟩:=h.st.jF hu hd;rw[<-hO]at CO;have n1:Nw (w.alloc (.cells #[pT (some ⟨q,u*10,none⟩)] 250)):=⟨⟩;have b0:Below w w n1:=Bg w _;have c0:(n1:qM).cell? ⟨w,0,none⟩=some (pT (some ⟨q,u*10,none⟩)):=by go_simp
 obtain⟨⟨k0,k1,k2,k3,k4,k5,k6,k7,k8,k9⟩,k10,k11,k12,k13⟩:=(h.wk.below b0).jZ;have y5:(n1:qM).cell? ⟨q,u*10+5,none⟩=some (sT O.data):=(CO.below ql b0).c5;have HA:=qC (h.below b0);have B0:=qC b0;have HO:=qC hO;rw[hk]at k1;have z0:(n1:qM).drew.cell? ⟨w,0,none⟩=some (pT (some ⟨q,u*10,none⟩)):=c0;have z5:(n1:qM).drew.cell? ⟨q,u*10+5,none⟩=some (sT O.data):=y5;have zk:(n1:qM).drew.cell? ⟨P,5,none⟩=some (sT s.data):=k5;have HD:=qC (HA.out.below (Below.refl _ _).drew);obtain⟨S1,hg,cur,hcu⟩:=HD.out.setData (d:=s.data) hu HO.out;have S1':=qC S1;have gf:=hcu.jC;have B1:=qC (((B0.out.drew).mono hB).setCell (p:=⟨q,u*10+5,none⟩) hg (sT s.data));clear h hO CO b0 S1 hk;go_enter func185,ntmps185
 go_upto_region 3 with fail
 generalize (n1:qM)=V at *;go_region_law fail
 all_goals(
  go_wp2;go_ret2;exact⟨rfl,S1',B1⟩)
theorem NV(w:qM)(B P:Nat)(s:Aj)(g ca q co:Nat)(lt:List Ae)(lo:List Ab)(t:Nat)(m:Value)(h:Fg w B P s g ca q co lt lo t m)(hB:B<=w.heap.size)(u:Nat)(hu:u<lo.length)(O:Ab)(hO:O=lo[u])(hd:∀x∈lo,x.data.size<=maxLen)(hk:s.kind=7):
 Calls prog 185 #[pT P,.agg #[pT (some ⟨q,u*10,none⟩)]] w fun e w'=>e= .returned (.tuple #[sT O.data,.nilIface])/\Fg w' B P s g ca q co lt lo t m/\Below B w w':=by
 obtain⟨CO,ql⟩:=h.st.jF hu hd;rw[<-hO]at CO;have n1:Nw (w.alloc (.cells #[pT (some ⟨q,u*10,none⟩)] 250)):=⟨⟩;have b0:Below w w n1:=Bg w _;have c0:(n1:qM).cell? ⟨w,0,none⟩=some (pT (some ⟨q,u*10,none⟩)):=by go_simp
 obtain⟨⟨k0,k1,k2,k3,k4,k5,k6,k7,k8,k9⟩,k10,k11,k12,k13⟩:=(h.wk.below b0).jZ;have y5:(n1:qM).cell? ⟨q,u*10+5,none⟩=some (sT O.data):=(CO.below ql b0).c5;have HA:=qC (h.below b0);have B0:=qC b0;have HO:=qC hO;rw[hk]at k1;have B1:=qC (B0.out.mono hB);clear h hO CO b0 hk;go_enter func185,ntmps185
 go_wp2;go_ret2;exact⟨rfl,HA,B1⟩
theorem NM(w:qM)(B P:Nat)(s:Aj)(g ca q co:Nat)(lt:List Ae)(lo:List Ab)(t:Nat)(m:Value)(h:Fg w B P s g ca q co lt lo t m)(u:Nat)(hu:u<lo.length)(O:Ab)(hO:O=lo[u])(hd:∀x∈lo,x.data.size<=maxLen)(hk:s.kind=8)(R:Value->qM->Prop)
 (CT:Calls prog 202 #[pT P,.agg #[pT (some ⟨q,u*10,none⟩)]] (w.alloc (.cells #[pT (some ⟨q,u*10,none⟩)] 250)) fun e w'=>∃v,e= .returned v/\R v w'):
 Calls prog 185 #[pT P,.agg #[pT (some ⟨q,u*10,none⟩)]] w fun e w'=>∃v,e= .returned (.tuple #[sT ⟨#[]⟩,v])/\R v w':=by
 obtain⟨CO,ql⟩:=h.st.jF hu hd;rw[<-hO]at CO;have n1:Nw (w.alloc (.cells #[pT (some ⟨q,u*10,none⟩)] 250)):=⟨⟩;have b0:Below w w n1:=Bg w _;have c0:(n1:qM).cell? ⟨w,0,none⟩=some (pT (some ⟨q,u*10,none⟩)):=by go_simp
 obtain⟨⟨k0,k1,k2,k3,k4,k5,k6,k7,k8,k9⟩,k10,k11,k12,k13⟩:=(h.wk.below b0).jZ;have y5:(n1:qM).cell? ⟨q,u*10+5,none⟩=some (sT O.data):=(CO.below ql b0).c5;have HA:=qC (h.below b0);have B0:=qC b0;have HO:=qC hO;rw[hk]at k1;have HC:=qC CT;clear h hO CO b0 hk CT;go_enter func185,ntmps185
 go_wp2_with fail
 refine HC.out.mono ?_;rintro e w1 ⟨v,rfl,r⟩;have HR:=qC r;clear r;go_wp2;go_ret2;exact⟨v,rfl,HR⟩
end
open Go.Value renaming slice→qV
open Go.Region renaming wanted→jW
open _root_.Nat renaming zero_add→jx
def JY(n:Nat)(f:Nat->ByteArray):List Value:=(List.range n).map (fun i=>Value.string (f i))
theorem ar{n:Nat}{f:Nat->ByteArray}:∀u∈JY n f,u.oneCell'=true:=fun u hu=>by obtain⟨y,_,rfl⟩:=List.mem_map.1 hu;rfl
def Dw(n:Nat)(f:Nat->ByteArray)(y:ByteArray)(i:Nat):ByteArray:=if i<n then f i else y
theorem Rl(n:Nat)(f:Nat->ByteArray)(y:ByteArray):JY (n+1) (Dw n f y)=JY n f++[.string y]:=by
 unfold JY;rw[List.range_succ,List.map_append];congr 1
 ·refine List.map_congr_left fun i hi=>?_;have:i<n:=List.mem_range.1 hi;simp[Dw,this]
 ·simp[Dw]
abbrev FV(w:qM)(B:Nat)(v:Value)(n:Nat)(f:Nat->ByteArray):Prop:=w.ownsRow B 9 1 v n (JY n f)
theorem FV.empty(w:qM)(B:Nat)(hb:B<=w.heap.size)(f:Nat->ByteArray):FV (w.alloc (.cells #[] 9)) B (qV (w) 0 0) 0 f:=World.ownsRow_made w #[] 0 hb (Nat.zero_le _) rfl
theorem FV.newL{w:qM}{B n c:Nat}{a:Option Addr}{f:Nat->ByteArray}(h:FV w B (qV a n c) n f)(hn:n<=1048576)(hz:∀i,i<n->(f i).size<=maxLen):AE.new B w ⟨a,n,c,f⟩/\(n<=c/\c<=maxLen):=⟨Rn h hn hz,Dj h⟩
theorem P8{w w':qM}{row:Option Nat}{b off n:Nat}{cs:List Value}(h:Bl w (some ⟨b,off,none⟩) n cs)(g:w.grownBy w' row)(hne:row≠some b):Bl w' (some ⟨b,off,none⟩) n cs:=fun hn=>by
 obtain⟨b',off',e,hlt,hc⟩:=h hn;have e1:b=b':=by cases e;rfl
 have e2:off=off':=by cases e;rfl
 subst e1;subst e2;exact⟨b,off,rfl,Nat.lt_of_lt_of_le hlt g.size,fun j u hu=>by
  rw[World.cell?_of_block (a:=⟨b,off+j,none⟩) (g.block b hlt (fun e=>hne e.symm))];exact hc j u hu⟩
theorem Jr(w:qM)(x:ByteArray):Bl (w.alloc (.cells #[.string x] 9)) (some ⟨w,0,none⟩) 1 [.string x]:=fun _=>
 ⟨w,0,rfl,by simp,fun j u hu=>by
   cases j with
   |zero=>simp at hu;subst hu;simp
   |succ j=>simp at hu⟩
theorem Fq{ops:Array Oper}{o:Oper}{a:Act}{w:qM}{K:Act->qM->Prop}{Q:Exit->Act->qM->Prop}{E:Prop}(hgd:o.guard=none)(s x:Operand)
 (ho:o.op= .call {callee:= .builtin .append,args:=#[s,x],argTypes:=#[57,57]})
 (B:Nat)(g:Nat)(f0:Nat->ByteArray)(hs:a.eval s= qV g 0 0)(hown:FV w B (qV g 0 0) 0 f0)(ad:Option Addr)(m c:Nat)(f:Nat->ByteArray)(hx:a.eval x= qV ad m c)(hc:JL w ad m f)
 (hm:m<=1048576)(hB:B<=w.heap.size)(d:Option Nat)(hd:o.dst=d)
 (h:∀a' c' w',FV w' B (qV a' m c') m f->w.grownBy w' (some g)->K (a.put d (qV a' m c')) w'):
 if jW o (yielded ops a.tmps)=true then Oper.wp prog o a w K Q else E:=by
 have hw:jW o (yielded ops a.tmps)=true:=by simp[jW,hgd]
 rw[if_pos hw];refine DO underlying57 Tryz.info9 rfl qQ w s x ho B _ 0 [] hs hown ad m c (JY m f) hx (by simp[JY]) (Mm hc) ar qQ qQ hB fun a' c' w' h2 h3 _=>?_;rw[jx,List.nil_append]at h2;rw[jx,hd];exact h a' c' w' h2 h3
theorem Gy{ops:Array Oper}{o:Oper}{a:Act}{w:qM}{K:Act->qM->Prop}{Q:Exit->Act->qM->Prop}{E:Prop}(hgd:o.guard=none)(s x:Operand)
 (ho:o.op= .call {callee:= .builtin .append,args:=#[s,x],argTypes:=#[57,57]})
 (B:Nat)(v:Value)(n:Nat)(f:Nat->ByteArray)(hs:a.eval s=v)(hown:FV w B v n f)(ad:Option Addr)(c:Nat)(y:ByteArray)(hx:a.eval x= qV ad 1 c)(hc:Bl w ad 1 [.string y])
 (hm:n<=1048576)(hB:B<=w.heap.size)(d:Option Nat)(hd:o.dst=d)
 (h:∀a' c' w',FV w' B (qV a' (n+1) c') (n+1) (Dw n f y)->w.grownBy w' v.ownBlock->K (a.put d (qV a' (n+1) c')) w'):
 if jW o (yielded ops a.tmps)=true then Oper.wp prog o a w K Q else E:=by
 have hw:jW o (yielded ops a.tmps)=true:=by simp[jW,hgd]
 rw[if_pos hw];refine DO underlying57 Tryz.info9 rfl qQ w s x ho B v n (JY n f) hs hown ad 1 c [.string y] hx rfl hc (fun u hu=>by simp at hu;subst hu;rfl) qQ qQ hB fun a' c' w' h2 h3 _=>?_;rw[<-Rl]at h2;rw[hd];exact h a' c' w' h2 h3
open Go.World renaming ownsRow→qq
open Go renaming Value→qB
section
variable {w w':qM}{B:Nat}{row:Option Nat}
theorem As.new.jY{c:As}(h:c.new B w)(hr:∀b,row=some b->∃m F,w.rowIs b 9 m F)(hg:w.grownBy w' row):c.new B w':=h.of hg.size (fun b' e hn=>by
 obtain⟨b'',m',F',e',_,_,hr'⟩:=h.2 hn;rw[e]at e';cases e';refine hg.block b' hr'.lt (fun ee=>?_);obtain⟨m,F,h9⟩:=hr b' ee.symm;exact Fz hr' h9 qX rfl)
theorem AJ.new.jY{c:AJ}(h:c.new B w)(hr:∀b,row=some b->∃m F,w.rowIs b 9 m F)(hg:w.grownBy w' row):c.new B w':=h.of hg.size (fun b' e hn=>by
 obtain⟨b'',m',F',e',_,_,hr'⟩:=h.2 hn;rw[e]at e';cases e';refine hg.block b' hr'.lt (fun ee=>?_);obtain⟨m,F,h9⟩:=hr b' ee.symm;exact Fz hr' h9 qX rfl)
theorem AE.new.jY{c:AE}(h:c.new B w)(hr:∀b,row=some b->b∉c.bs)(hg:w.grownBy w' row):c.new B w':=h.of hg.size (fun b' e h0=>by
 obtain⟨b'',m',F',e',_,_,hr'⟩:=h.2 h0;rw[e]at e';cases e';refine hg.block b' hr'.lt (fun ee=>hr b' ee.symm ?_);unfold AE.bs;rw[if_pos h0,e];simp)
end
theorem Bz.itemRow{w w':qM}{B q co:Nat}{vt:qB}{row:Option Nat}{lt:List Ae}{lo:List Ab}(h:Bz w B vt (qV q lo.length co) lt lo)(ha:Apart lt lo){u:Nat}(hu:u<lo.length){O:Ab}(hO:O=lo[u])(hr:∀b,row=some b->b∈O.jA.bs/\∃m F,w.rowIs b 9 m F)(hg:w.grownBy w' row){d:AE}(hd:d.new B w')(hdc:d.n<=d.k/\d.k<=maxLen):
 Bz (w'.setCell ⟨q,u*10+6,none⟩ (qV d.a d.n d.k)) B vt (qV q lo.length co) lt (lo.set u ⟨O.id,O.kind,O.up,O.b1,O.c1,O.data,d,O.own,O.b2,O.c2⟩)/\(∃cur,Ag w' q (.cells cur 59))/\B<=q:=by
 have hx:=h.on _ (qk hu);rw[<-hO]at hx;have h9:∀b,row=some b->∃m F,w.rowIs b 9 m F:=fun b e=>(hr b e).2;have other:∀{v:qB}{ty:TypeId}{sz n:Nat}{cs:List qB},w.ownsRow B ty sz v n cs->ty≠9->v.ownBlock=none∨v.ownBlock≠row:=fun{v ty sz n cs} ho hty=>by
  rcases ho.2 with⟨hv,_⟩|⟨g',cap,cur,hv,_,hgg,_⟩
  ·exact .inl (by rw[hv];rfl)
  ·refine .inr (fun e=>hty ?_);rw[hv]at e;obtain⟨m,F,c,hc,_⟩:=h9 g' (by rw[<-e];rfl);rw[hgg]at hc;simp at hc;exact hc.2
 have it:(lo.map fun x=>x.jA.bs)[u]? =some O.jA.bs:=by simp[hu,hO]
 have kt:Du w' B vt lt:=qq.kept h.t hg (other h.t qX);have ko:AW w' B (qV q lo.length co) lo:=qq.kept h.o hg (other h.o qX);have ton:∀y∈lt,y.new B w':=fun y hy=>⟨(h.tn y hy).1.jY h9 hg,(h.tn y hy).2.1.jY h9 hg,(h.tn y hy).2.2.jY h9 hg⟩;have oon:∀j (hj:j<lo.length),j≠u->(lo[j]).new B w':=fun j hj ne=>by
  have hy:=h.on _ (qk hj);refine⟨hy.1.jY h9 hg,hy.2.1.jY (fun b e hb=>?_) hg,hy.2.2.1.jY h9 hg,hy.2.2.2.jY h9 hg⟩;exact Oa ha.s (i:=j) (j:=u) (by simp[hj]) it ne hb (hr b e).1
 obtain⟨cur,hcur⟩:∃cur,Ag w' q (.cells cur 59):=by
  rcases ko.2 with⟨hv,_⟩|⟨g',cap,cur,hv,_,hgg,_⟩
  ·cases hv
  ·cases hv;exact⟨cur,hgg⟩
 have hBg:B<=q:=(qq.lt ko q rfl).1;have kl:=Aq (i:=u*10+6) hcur qX (qV d.a d.n d.k);have ho:=(qq.stored ko (u*10+6) (qV d.a d.n d.k)).1;have hxn:(⟨O.id,O.kind,O.up,O.b1,O.c1,O.data,d,O.own,O.b2,O.c2⟩:Ab).new B w':=⟨hx.1.jY h9 hg,hd,hx.2.2.1.jY h9 hg,hx.2.2.2.jY h9 hg⟩;refine⟨⟨kt.set hcur qX _,?_,fun y hy=>(ton y hy).keeps kl,fun y hy=>?_,h.tc,fun y hy=>?_⟩,⟨cur,hcur⟩,hBg⟩
 ·unfold AW;have e:=Dl (f:=Ab.cs) Ab.jK (l:=lo) (t:=u) (x:=(⟨O.id,O.kind,O.up,O.b1,O.c1,O.data,d,O.own,O.b2,O.c2⟩:Ab)) (u:= qV d.a d.n d.k) (i:=6) hu qQ (by rw[<-hO];rfl);have el:(lo.set u (⟨O.id,O.kind,O.up,O.b1,O.c1,O.data,d,O.own,O.b2,O.c2⟩:Ab)).length=lo.length:=by simp
  rw[el];unfold Ax;rw[<-e];exact ho
 ·obtain⟨j,hj,rfl⟩:=List.getElem_of_mem hy;rw[List.getElem_set];split
  ·exact hxn.keeps kl
  ·exact(oon j (by simpa using hj) qQ).keeps kl
 ·rcases G8 hy with rfl|hy
  ·exact hdc
  ·exact h.oc y hy
theorem Fg.itemRow{w w':qM}{B P:Nat}{s:Aj}{g ca q co:Nat}{lt:List Ae}{lo:List Ab}{t:Nat}{m:qB}{row:Option Nat}(h:Fg w B P s g ca q co lt lo t m){u:Nat}(hu:u<lo.length){O:Ab}(hO:O=lo[u])(hr:∀b,row=some b->b∈O.jA.bs/\∃m F,w.rowIs b 9 m F)(hg:w.grownBy w' row){d:AE}(hd:d.new B w')(hdc:d.n<=d.k/\d.k<=maxLen)(hdb:∀b∈d.bs,b∈O.jA.bs∨w.heap.size<=b):
 Fg (w'.setCell ⟨q,u*10+6,none⟩ (qV d.a d.n d.k)) B P s g ca q co lt (lo.set u ⟨O.id,O.kind,O.up,O.b1,O.c1,O.data,d,O.own,O.b2,O.c2⟩) t m/\(∃cur,Ag w' q (.cells cur 59))/\B<=q/\Ag w' P (.cells (IN s g lt.length ca q lo.length co t m) 175)/\(∀b,row=some b->B<=b/\b≠q/\b≠P):=by
 obtain⟨k1,hcu,hBg⟩:=h.st.itemRow h.ap hu hO hr hg hd hdc;have el:(lo.set u (⟨O.id,O.kind,O.up,O.b1,O.c1,O.data,d,O.own,O.b2,O.c2⟩:Ab)).length=lo.length:=by simp
 have hn:O.cb.Nodup:=Dr (L:=lo.map Ab.cb) (S:=(lt.map Ae.cb).flatten) (t:=u) (by simp[hu,hO]) (jz.nodup_iff.2 h.ap.c);have hi:O.own.bs.Nodup:=Dr (L:=lo.map fun x=>x.own.bs) (S:=(lt.map fun x=>x.own.bs).flatten) (t:=u) (by simp[hu,hO]) (jz.nodup_iff.2 h.ap.i);have hx:=h.st.on _ (qk hu);rw[<-hO]at hx;have rw_:∀b,row=some b->B<=b/\b≠q/\b≠P:=fun b e=>by
  obtain⟨h1,m',F,c,hc,_⟩:=hr b e;refine⟨(hx.2.1.bs.2 b h1).1,fun e'=>?_,fun e'=>?_⟩
  ·rcases h.st.o.2 with⟨hv,_⟩|⟨g',cap,cur',hv,_,hgg,_⟩
   ·cases hv
   ·cases hv;rw[<-e',hc]at hgg;simp at hgg
  ·have hw:=h.wk;unfold Ag at hw;rw[<-e',hc]at hw;simp at hw
 have wk:Ag w' P (.cells (IN s g lt.length ca q lo.length co t m) 175):=h.wk.grown hg (fun e=>(rw_ P e.symm).2.2 rfl);exact⟨⟨by rw[el];exact k1,h.ap.setO h.st hu (x:=⟨O.id,O.kind,O.up,O.b1,O.c1,O.data,d,O.own,O.b2,O.c2⟩) hn (fun b hb=> .inl (by rw[<-hO];exact hb)) hi (fun b hb=> .inl (by rw[<-hO];exact hb)) hd.bs.1 (fun b hb=>by rw[<-hO];exact hdb b hb),by rw[el];exact wk.other (Ne.symm h.setQ) _,h.lp⟩,hcu,hBg,wk,rw_⟩
def AE.jH(B:Nat)(w:qM)(c:AE):Prop:=c.at w/\(0<c.n->∃b off m F,c.a=some ⟨b,off,none⟩/\B<=b/\off+c.n<=m/\w.rowIs b 9 m F)
theorem AE.new.f{B:Nat}{w:qM}{c:AE}(h:c.new B w):c.jH B w:=⟨h.1,fun h0=>by
 obtain⟨b,m,F,e,h1,h2,h3⟩:=h.2 h0;exact⟨b,0,m,F,e,h1,by omega,h3⟩⟩
theorem AE.jH.of{B:Nat}{w w':qM}{c:AE}(h:c.jH B w)(hs:w.heap.size<=w'.heap.size)(hb:∀b∈c.bs,w'.heap[b]? =w.heap[b]?):c.jH B w':=
 ⟨⟨h.1.1,fun hn=>by
   obtain⟨b,off,e,hlt,hc⟩:=h.1.2.1 hn;have hm:b∈c.bs:=(by unfold AE.bs;rw[if_pos hn,e];simp);exact⟨b,off,e,Nat.lt_of_lt_of_le hlt hs,fun i hi=>by rw[World.cell?_of_block (a:=⟨b,off+i,none⟩) (hb b hm)];exact hc i hi⟩,h.1.2.2⟩,fun hn=>by
   obtain⟨b,off,m,F,e,h1,h2,h3⟩:=h.2 hn;have hm:b∈c.bs:=(by unfold AE.bs;rw[if_pos hn,e];simp);exact⟨b,off,m,F,e,h1,h2,h3.of_block (hb b hm)⟩⟩
theorem AE.jH.lt{B:Nat}{w:qM}{c:AE}(h:c.jH B w):∀b∈c.bs,B<=b/\b<w.heap.size:=fun b hb=>by
 unfold AE.bs at hb;split at hb
 ·rename_i h0;obtain⟨b',off,m,F,e,h1,_,h3⟩:=h.2 h0;rw[e]at hb;rw[List.mem_singleton.1 hb];exact⟨h1,h3.lt⟩
 ·cases hb
theorem AE.jH.below{B:Nat}{w w':qM}{c:AE}(h:c.jH B w)(hb:Below w w w'):c.jH B w':=h.of hb.size (fun b hm=>hb.block b (h.lt b hm).2)
def Ab.jH(B:Nat)(w:qM)(t:Ab):Prop:=t.c1.new B w/\t.jA.jH B w/\t.own.new B w/\t.c2.new B w
theorem Ab.jH.at{B:Nat}{w:qM}{t:Ab}(h:t.jH B w)(hd:t.data.size<=maxLen):t.at w:=⟨h.1.1,h.2.1.1,h.2.2.1.1,h.2.2.2.1,hd⟩
structure Ho(w:qM)(B:Nat)(vt vo:qB)(lt:List Ae)(lo:List Ab):Prop where
 t:Du w B vt lt
 o:AW w B vo lo
 tn:∀x∈lt,x.new B w
 on:∀x∈lo,x.jH B w
theorem Bz.f{w:qM}{B:Nat}{vt vo:qB}{lt:List Ae}{lo:List Ab}(h:Bz w B vt vo lt lo):Ho w B vt vo lt lo:=⟨h.t,h.o,h.tn,fun x hx=>⟨(h.on x hx).1,(h.on x hx).2.1.f,(h.on x hx).2.2⟩⟩
theorem Ho.below{w w':qM}{B:Nat}{vt vo:qB}{lt:List Ae}{lo:List Ab}(h:Ho w B vt vo lt lo)(hb:Below w w w'):Ho w' B vt vo lt lo:=
 ⟨h.t.below hb,h.o.below hb,fun x hx=>(h.tn x hx).keeps (Dk.of_below hb).l,fun x hx=>⟨(h.on x hx).1.below hb,(h.on x hx).2.1.below hb,(h.on x hx).2.2.1.below hb,(h.on x hx).2.2.2.below hb⟩⟩
structure Pk(wr:qM)(B P:Nat)(s:Aj)(g ca q co:Nat)(lt:List Ae)(lo:List Ab)(t:Nat)(m:qB):Prop where
 st:Ho wr B (qV g lt.length ca) (qV q lo.length co) lt lo
 ap:Apart lt lo
 wk:Ag wr P (.cells (IN s g lt.length ca q lo.length co t m) 175)
theorem Fg.f{wr:qM}{B P:Nat}{s:Aj}{g ca q co:Nat}{lt:List Ae}{lo:List Ab}{t:Nat}{m:qB}(h:Fg wr B P s g ca q co lt lo t m):Pk wr B P s g ca q co lt lo t m:=⟨h.st.f,h.ap,h.wk⟩
theorem Pk.below{wr w':qM}{B P:Nat}{s:Aj}{g ca q co:Nat}{lt:List Ae}{lo:List Ab}{t:Nat}{m:qB}(h:Pk wr B P s g ca q co lt lo t m)(hb:Below wr wr w'):Pk w' B P s g ca q co lt lo t m:=⟨h.st.below hb,h.ap,h.wk.below hb⟩
theorem QE(tmps:Array Value)(W:World)(P:Nat)(x y:Value)(h:Ag W P (.cells #[x,y] 42))(h2:tmps[2]? =some (.pointer P)):
 (results Tryz.f198 tmps).run prog W= .ok (.agg #[x,y]) W:=by
 obtain⟨z0,z1⟩:=h.two;simp[results,Tryz.results198,go_sem,h2,z0,z1]
theorem MC(q j:Nat)(b:Int)(c:As)(w:World)(hq:q<w.heap.size)(h3:w.cell? ⟨q,j+3,none⟩=some (.int .i64 b))(h4:w.cell? ⟨q,j+3+1,none⟩=some (.slice c.a c.n c.k)):
 Calls prog 198 #[.agg #[.pointer (some ⟨q,j,none⟩)]] w fun e w'=>e= .returned (.agg #[.int .i64 b,c])/\Below w w w':=by
 have n1:Nw (w.alloc (.cells #[.pointer (some ⟨q,j,none⟩)] 248)):=⟨⟩;have n2:No (.cells #[.int .i64 0,.slice none 0 0] 42):=⟨⟩;have b0:Below w w ((n1:World).alloc n2):=(Bg w _).alloc sI _;have R0:Ag ((n1:World).alloc n2) (w.heap.size+1) n2:=by
  have:=Ag.new n1 n2;simpa using this
 have e3:=(b0.cell (p:=⟨q,j+3,none⟩) hq).trans h3;have e4:=(b0.cell (p:=⟨q,j+3+1,none⟩) hq).trans h4;obtain⟨r0,r1⟩:=R0.two;have rf:=R0.jC;clear R0 b0;go_enter func198,ntmps198
 go_wp2;refine bodyPost_ret (QE _ _ (w.heap.size+1) (.int .i64 b) (.slice c.a c.n c.k) (by have:=Ag.new n1 (.cells #[.int .i64 b,c] 42);simpa using this) rfl) rfl ⟨rfl,?_⟩;exact(Bg w _).alloc sI _
open Go.Value renaming tuple→qW
theorem bL(x:TypeId)(w:qM):(Instr.typeAssert .nilIface x 250 true).run prog w= .ok (qW #[.agg #[.pointer none],.bool false]) w:=by
 have hu:∀w,(underlying 250).run prog w= .ok _ w:=fun w=>by simp[underlying,go_sem,underlying250];rfl
 simp[Instr.typeAssert,go_sem,hu,zeroValue250]
theorem Rw(x:TypeId)(v:Value)(w:qM):(Instr.typeAssert (.iface 250 v) x 250 true).run prog w= .ok (qW #[v,.bool true]) w:=by
 have hu:∀w,(underlying 250).run prog w= .ok _ w:=fun w=>by simp[underlying,go_sem,underlying250];rfl
 simp[Instr.typeAssert,go_sem,hu]
theorem Sn(x:TypeId)(t:TypeId)(v:Value)(w:qM)(h:t≠250):(Instr.typeAssert (.iface t v) x 250 true).run prog w= .ok (qW #[.agg #[.pointer none],.bool false]) w:=by
 have hu:∀w,(underlying 250).run prog w= .ok _ w:=fun w=>by simp[underlying,go_sem,underlying250];rfl
 simp[Instr.typeAssert,go_sem,hu,zeroValue250,h]
theorem cV(x:TypeId)(v:Value)(w:qM):(Instr.typeAssert (.iface 252 v) x 252 true).run prog w= .ok (qW #[v,.bool true]) w:=by
 have hu:∀w,(underlying 252).run prog w= .ok _ w:=fun w=>by simp[underlying,go_sem,underlying252];rfl
 simp[Instr.typeAssert,go_sem,hu]
theorem aj(x:TypeId)(t:TypeId)(v:Value)(w:qM)(h:t≠252):(Instr.typeAssert (.iface t v) x 252 true).run prog w= .ok (qW #[.agg #[.pointer none],.bool false]) w:=by
 have hu:∀w,(underlying 252).run prog w= .ok _ w:=fun w=>by simp[underlying,go_sem,underlying252];rfl
 simp[Instr.typeAssert,go_sem,hu,zeroValue252,h]
theorem bE(x:TypeId)(w:qM):(Instr.typeAssert .nilIface x 254 true).run prog w= .ok (qW #[.agg #[.pointer none],.bool false]) w:=by
 have hu:∀w,(underlying 254).run prog w= .ok _ w:=fun w=>by simp[underlying,go_sem,underlying254];rfl
 simp[Instr.typeAssert,go_sem,hu,zeroValue254]
theorem WX(x:TypeId)(v:Value)(w:qM):(Instr.typeAssert (.iface 254 v) x 254 true).run prog w= .ok (qW #[v,.bool true]) w:=by
 have hu:∀w,(underlying 254).run prog w= .ok _ w:=fun w=>by simp[underlying,go_sem,underlying254];rfl
 simp[Instr.typeAssert,go_sem,hu]
theorem YR(x:TypeId)(t:TypeId)(v:Value)(w:qM)(h:t≠254):(Instr.typeAssert (.iface t v) x 254 true).run prog w= .ok (qW #[.agg #[.pointer none],.bool false]) w:=by
 have hu:∀w,(underlying 254).run prog w= .ok _ w:=fun w=>by simp[underlying,go_sem,underlying254];rfl
 simp[Instr.typeAssert,go_sem,hu,zeroValue254,h]
theorem bo(x:TypeId)(v:Value)(w:qM):(Instr.typeAssert (.iface 256 v) x 256 true).run prog w= .ok (qW #[v,.bool true]) w:=by
 have hu:∀w,(underlying 256).run prog w= .ok _ w:=fun w=>by simp[underlying,go_sem,underlying256];rfl
 simp[Instr.typeAssert,go_sem,hu]
open Go.Value renaming int→iT
open Go.IntKind renaming i64→qH
open Go.RowKit renaming Below→qN
theorem Ag.sevenF{W:World}{P t:Nat}{x0 x1 x2 x3 x4 x5 x6:Value}(h:Ag W P (.cells #[x0,x1,x2,x3,x4,x5,x6] t)):W.cell? ⟨P,0,none⟩=some x0/\W.cell? ⟨P,1,none⟩=some x1/\W.cell? ⟨P,2,none⟩=some x2/\W.cell? ⟨P,3,none⟩=some x3/\W.cell? ⟨P,4,none⟩=some x4/\W.cell? ⟨P,5,none⟩=some x5/\W.cell? ⟨P,6,none⟩=some x6:=by
 unfold Ag at h;simp[World.cell?,h]
def M9(id made b1:Int)(n1:Nat)(f1 g1:Nat->Int)(b2:Int)(n2:Nat)(f2 g2:Nat->Int)(n3:Nat)(h:Nat->Int)(bl:Int)(nl:Nat)(fl gl:Nat->Int):Bool:=
 Dz id made b1 n1 f1 g1 b2 n2 f2 g2 n3 h&&(Bb bl nl fl gl&&CX bl nl fl gl n3 h b1 n1 f1 g1)
def Ol(id made b1:Int)(n1:Nat)(f1 g1:Nat->Int)(b2:Int)(n2:Nat)(f2 g2:Nat->Int)(n3:Nat)(h:Nat->Int)(bl:Int)(nl:Nat)(fl gl:Nat->Int):Bool:=
 Dz id made b1 n1 f1 g1 b2 n2 f2 g2 n3 h&&(Bb bl nl fl gl&&CX b1 n1 f1 g1 n3 h bl nl fl gl)
def Mb(id made b1:Int)(n1:Nat)(f1 g1:Nat->Int)(b2:Int)(n2:Nat)(f2 g2:Nat->Int)(n3:Nat)(h:Nat->Int)(bl:Int)(nl:Nat)(fl gl:Nat->Int):Bool:=
 M9 id made b1 n1 f1 g1 b2 n2 f2 g2 n3 h bl nl fl gl&&Ol id made b1 n1 f1 g1 b2 n2 f2 g2 n3 h bl nl fl gl
theorem Oo{id made b1:Int}{n1:Nat}{f1 g1:Nat->Int}{b2:Int}{n2:Nat}{f2 g2:Nat->Int}{n3:Nat}{h:Nat->Int}(t:Dz id made b1 n1 f1 g1 b2 n2 f2 g2 n3 h=true):Bb b1 n1 f1 g1=true/\Bb b2 n2 f2 g2=true/\Cf n3 h=true:=by
 simp only[Dz,Bool.and_eq_true]at t;exact⟨t.1.1.1.2,t.1.1.2,t.1.2⟩
theorem Ma(id made b1:Int)(a1:Option Addr)(n1 k1:Nat)(f1 g1:Nat->Int)(b2:Int)(a2:Option Addr)(n2 k2:Nat)(f2 g2:Nat->Int)(a3:Option Addr)(n3 k3:Nat)(h:Nat->Int)(bl:Int)(al:Option Addr)(nl kl:Nat)(fl gl:Nat->Int)(w:World)(hn1:n1<=maxLen)(hn2:n2<=maxLen)(hn3:n3<=maxLen)(hc1:Bd w a1 n1 f1 g1)(hc2:Bd w a2 n2 f2 g2)(hc3:Bp w a3 n3 h)(hnl:nl<=maxLen)(hcl:Bd w al nl fl gl):
 Calls prog 183 #[.agg #[iT qH id,iT qH b1,qV a1 n1 k1,iT qH b2,qV a2 n2 k2,qV a3 n3 k3,iT qH made],.agg #[iT qH bl,qV al nl kl]] w fun e w'=>e= .returned (.bool (M9 id made b1 n1 f1 g1 b2 n2 f2 g2 n3 h bl nl fl gl))/\qN w w w':=by
 have n4:No (.cells #[iT qH id,iT qH b1,qV a1 n1 k1,iT qH b2,qV a2 n2 k2,qV a3 n3 k3,iT qH made] 53):=⟨⟩;have n5:No (.cells #[iT qH bl,qV al nl kl] 42):=⟨⟩;have hb0:=((Below.refl _ w).alloc nr n4).alloc sI n5;have yT:Ag ((w.alloc n4).alloc n5) w n4:=(Ag.new w _).alloc _;have yL:Ag ((w.alloc n4).alloc n5) (w.heap.size+1) n5:=by have:=Ag.new (w.alloc n4) n5;simpa using this
 go_enter func183,ntmps183
 go_wp2_with fail
 refine(JV _ _ _ _ _ _ f1 g1 _ _ _ _ f2 g2 _ _ _ h _ hn1 hn2 hn3 (hc1.below hb0) (hc2.below hb0) (hc3.below hb0)).mono ?_;rintro e w1 ⟨rfl,hb1⟩;have B1:qN w w w1:=hb0.trans (hb1.mono sO);have xT:=yT.below hb1;have xL:=yL.below hb1;obtain⟨x0,x1,x2,x3,x4,x5,x6⟩:=xT.sevenF;obtain⟨x7,x8⟩:=xL.two;clear yT yL hb0 hb1;by_cases t1:Dz id made b1 n1 f1 g1 b2 n2 f2 g2 n3 h=true
 ·go_wp2_with fail
  refine(It _ _ _ _ fl gl _ _ _ h _ _ _ _ f1 g1 _ hnl hn1 hn3 (hcl.below B1) (hc1.below B1) (hc3.below B1)).mono ?_;rintro e w2 ⟨rfl,hb2⟩;have B2:qN w w w2:=B1.trans (hb2.mono B1.size);clear x0 x1 x2 x3 x4 x5 x6 x7 x8 xT xL;go_wp2;go_ret;obtain⟨p1,_,p3⟩:=Oo t1;exact⟨Ah (by simp[Dn,M9,t1,p1,p3]),B2⟩
 ·have t1':Dz id made b1 n1 f1 g1 b2 n2 f2 g2 n3 h=false:=by simpa using t1
  clear t1;go_wp2;go_ret;exact⟨Ah (by simp[M9,t1']),B1⟩
theorem NI(id made b1:Int)(a1:Option Addr)(n1 k1:Nat)(f1 g1:Nat->Int)(b2:Int)(a2:Option Addr)(n2 k2:Nat)(f2 g2:Nat->Int)(a3:Option Addr)(n3 k3:Nat)(h:Nat->Int)(bl:Int)(al:Option Addr)(nl kl:Nat)(fl gl:Nat->Int)(w:World)(hn1:n1<=maxLen)(hn2:n2<=maxLen)(hn3:n3<=maxLen)(hc1:Bd w a1 n1 f1 g1)(hc2:Bd w a2 n2 f2 g2)(hc3:Bp w a3 n3 h)(hnl:nl<=maxLen)(hcl:Bd w al nl fl gl):
 Calls prog 162 #[.agg #[iT qH id,iT qH b1,qV a1 n1 k1,iT qH b2,qV a2 n2 k2,qV a3 n3 k3,iT qH made],.agg #[iT qH bl,qV al nl kl]] w fun e w'=>e= .returned (.bool (Ol id made b1 n1 f1 g1 b2 n2 f2 g2 n3 h bl nl fl gl))/\qN w w w':=by
 have n4:No (.cells #[iT qH id,iT qH b1,qV a1 n1 k1,iT qH b2,qV a2 n2 k2,qV a3 n3 k3,iT qH made] 53):=⟨⟩;have n5:No (.cells #[iT qH bl,qV al nl kl] 42):=⟨⟩;have hb0:=((Below.refl _ w).alloc nr n4).alloc sI n5;have yT:Ag ((w.alloc n4).alloc n5) w n4:=(Ag.new w _).alloc _;have yL:Ag ((w.alloc n4).alloc n5) (w.heap.size+1) n5:=by have:=Ag.new (w.alloc n4) n5;simpa using this
 go_enter func162,ntmps162
 go_wp2_with fail
 refine(JV _ _ _ _ _ _ f1 g1 _ _ _ _ f2 g2 _ _ _ h _ hn1 hn2 hn3 (hc1.below hb0) (hc2.below hb0) (hc3.below hb0)).mono ?_;rintro e w1 ⟨rfl,hb1⟩;have B1:qN w w w1:=hb0.trans (hb1.mono sO);have xT:=yT.below hb1;have xL:=yL.below hb1;obtain⟨x0,x1,x2,x3,x4,x5,x6⟩:=xT.sevenF;obtain⟨x7,x8⟩:=xL.two;clear yT yL hb0 hb1;by_cases t1:Dz id made b1 n1 f1 g1 b2 n2 f2 g2 n3 h=true
 ·go_wp2_with fail
  refine(It _ _ _ _ f1 g1 _ _ _ h _ _ _ _ fl gl _ hn1 hnl hn3 (hc1.below B1) (hcl.below B1) (hc3.below B1)).mono ?_;rintro e w2 ⟨rfl,hb2⟩;have B2:qN w w w2:=B1.trans (hb2.mono B1.size);clear x0 x1 x2 x3 x4 x5 x6 x7 x8 xT xL;go_wp2;go_ret;obtain⟨p1,_,p3⟩:=Oo t1;exact⟨Ah (by simp[Dn,Ol,t1,p1,p3]),B2⟩
 ·have t1':Dz id made b1 n1 f1 g1 b2 n2 f2 g2 n3 h=false:=by simpa using t1
  clear t1;go_wp2;go_ret;exact⟨Ah (by simp[Ol,t1']),B1⟩
theorem Nu(id made b1:Int)(a1:Option Addr)(n1 k1:Nat)(f1 g1:Nat->Int)(b2:Int)(a2:Option Addr)(n2 k2:Nat)(f2 g2:Nat->Int)(a3:Option Addr)(n3 k3:Nat)(h:Nat->Int)(bl:Int)(al:Option Addr)(nl kl:Nat)(fl gl:Nat->Int)(w:World)(hn1:n1<=maxLen)(hn2:n2<=maxLen)(hn3:n3<=maxLen)(hc1:Bd w a1 n1 f1 g1)(hc2:Bd w a2 n2 f2 g2)(hc3:Bp w a3 n3 h)(hnl:nl<=maxLen)(hcl:Bd w al nl fl gl):
 Calls prog 175 #[.agg #[iT qH id,iT qH b1,qV a1 n1 k1,iT qH b2,qV a2 n2 k2,qV a3 n3 k3,iT qH made],.agg #[iT qH bl,qV al nl kl]] w fun e w'=>e= .returned (.bool (Mb id made b1 n1 f1 g1 b2 n2 f2 g2 n3 h bl nl fl gl))/\qN w w w':=by
 have n4:No (.cells #[iT qH id,iT qH b1,qV a1 n1 k1,iT qH b2,qV a2 n2 k2,qV a3 n3 k3,iT qH made] 53):=⟨⟩;have n5:No (.cells #[iT qH bl,qV al nl kl] 42):=⟨⟩;have hb0:=((Below.refl _ w).alloc nr n4).alloc sI n5;have yT:Ag ((w.alloc n4).alloc n5) w n4:=(Ag.new w _).alloc _;have yL:Ag ((w.alloc n4).alloc n5) (w.heap.size+1) n5:=by have:=Ag.new (w.alloc n4) n5;simpa using this
 go_enter func175,ntmps175
 go_wp2_with fail
 refine(Ma _ _ _ _ _ _ f1 g1 _ _ _ _ f2 g2 _ _ _ h _ _ _ _ fl gl _ hn1 hn2 hn3 (hc1.below hb0) (hc2.below hb0) (hc3.below hb0) hnl (hcl.below hb0)).mono ?_;rintro e w1 ⟨rfl,hb1⟩;have B1:qN w w w1:=hb0.trans (hb1.mono sO);have xT:=yT.below hb1;have xL:=yL.below hb1;obtain⟨x0,x1,x2,x3,x4,x5,x6⟩:=xT.sevenF;obtain⟨x7,x8⟩:=xL.two;clear yT yL hb0 hb1;by_cases t1:M9 id made b1 n1 f1 g1 b2 n2 f2 g2 n3 h bl nl fl gl=true
 ·go_wp2_with fail
  refine(NI _ _ _ _ _ _ f1 g1 _ _ _ _ f2 g2 _ _ _ h _ _ _ _ fl gl _ hn1 hn2 hn3 (hc1.below B1) (hc2.below B1) (hc3.below B1) hnl (hcl.below B1)).mono ?_;rintro e w2 ⟨rfl,hb2⟩;have B2:qN w w w2:=B1.trans (hb2.mono B1.size);clear x0 x1 x2 x3 x4 x5 x6 x7 x8 xT xL;go_wp2;go_ret;exact⟨Ah (by simp[Mb,t1]),B2⟩
 ·have t1':M9 id made b1 n1 f1 g1 b2 n2 f2 g2 n3 h bl nl fl gl=false:=by simpa using t1
  clear t1;go_wp2;go_ret;exact⟨Ah (by simp[Mb,t1']),B1⟩
open Go.Obj renaming cells→qG
open _root_.Nat renaming le_trans→qj,lt_of_lt_of_le→qv
open _root_.List renaming set→qF
theorem Cz(w:qM){B:Nat}(E:Nat->Addr)(hB:B<=w.heap.size)(c:Int)(hc:c≠0)(i:Nat)(h0:i≠0)(h1:i<14)(h3:i≠3){r:Nat}(hr:w.heap.size=r):Told (w.alloc (qG #[.int .i64 c,.iface 314 (pT (some (E i)))] 145)) B E (.iface 141 (pT r)) c:=by
 subst hr;exact .inr ⟨hc,_,i,rfl,Ag.new w _,h0,h1,h3,hB⟩
theorem WI{k:Int}(h:k≠1):Fb k=252∨Fb k=254∨Fb k=256:=by
 unfold Fb;rw[if_neg h];split
 ·exact .inl rfl
 ·split
  ·exact .inr (.inl rfl)
  ·exact .inr (.inr rfl)
theorem WG(E:Nat->Addr)(w:qM)(B P:Nat)(s:Aj)(g ca q co:Nat)(lt:List Ae)(lo:List Ab)(t c C:Nat)(nb:Nat->Nat)(kv:Nat->Value)(K:Nat->List Int)(h:Fg w B P s g ca q co lt lo t (.map (some c)))(hN:Ei w C c lo.length (fun i=>(Aa lo i).id) q 0 nb kv K)(he:LY w E)(h14:14<=B)(hB:B<=w.heap.size)(ht:t<lt.length)(X:Ae)(hX:X=lt[t])(u:Nat)(hu:u<lo.length)(O:Ab)(hO:O=lo[u])(hd:∀x∈lo,x.data.size<=maxLen)(hto:(Lit.int .i64 s.to).wf=true)
 (CH:∀p,p<lo.length->∀W,qN w w W->Calls prog 175 #[.agg X,.agg #[.int .i64 (Aa lo p).b1,.slice (Aa lo p).c1.a (Aa lo p).c1.n (Aa lo p).c1.k]] W fun e w'=>e= .returned (.bool (Ap X (Aa lo p).b1 (Aa lo p).c1))/\qN W W w'):
 Calls prog 202 #[pT P,.agg #[pT (some ⟨q,u*10,none⟩)]] w fun e w'=>∃v,e= .returned v/\∃(c':Int) (lo':List Ab),Fg w' B P s g ca q co lt lo' t (.map (some c))/\qN B w w'/\Told w' B E v c'/\((Hq lo s.to=none/\c'=4/\lo'=lo)∨∃p,Hq lo s.to=some p/\((((Aa lo p).kind≠1∨Ap X (Aa lo p).b1 (Aa lo p).c1=false)/\c'=4/\lo'=lo)∨((Aa lo p).kind=1/\Ap X (Aa lo p).b1 (Aa lo p).c1=true/\c'=0/\lo'=(lo.set p ⟨(Aa lo p).id,(Aa lo p).kind,(Aa lo p).up,(Aa lo p).b1,(Aa lo p).c1,O.data,(Aa lo p).jA,(Aa lo p).own,(Aa lo p).b2,(Aa lo p).c2⟩)))):=by
 obtain⟨CW,gl⟩:=h.st.jJ ht;rw[<-hX]at CW;obtain⟨CO,ql⟩:=h.st.jF hu hd;rw[<-hO]at CO;have n2:Nw (w.alloc (qG #[pT (some ⟨q,u*10,none⟩)] 250)):=⟨⟩;have b0:qN w w n2:=Bg w _;have c0:(n2:qM).cell? ⟨w,0,none⟩=some (pT (some ⟨q,u*10,none⟩)):=by go_simp
 obtain⟨⟨k0,k1,k2,k3,k4,k5,k6,k7,k8,k9⟩,k10,k11,k12,k13⟩:=(h.wk.below b0).jZ;have HW:=qC h;have HE:=qC he;have HCH:=qC CH;have B0:=qC b0;have TH:=qC (Jw n2 B P s g ca q co lt lo t c C lo.length _ nb kv K (h.below b0) (hN.below b0) nr hd s.to hto);have n6:No (qG (IN s g lt.length ca q lo.length co t (.map (some c))) 175):=⟨⟩;have BX:Hid (∀W,qN (n2:qM).heap.size n2 W->Ag W P n6/\FA W g (t*7) X/\Di W q (u*10) O/\W.cell? ⟨w,0,none⟩=some (pT (some ⟨q,u*10,none⟩))):=qC (fun W hW=>⟨(HW.out.wk.below B0).below hW,(CW.below gl B0).below (qv gl B0.out.size) hW,(CO.below ql B0).below (qv ql B0.out.size) hW,(hW.cell (p:=⟨w,0,none⟩) sI).trans c0⟩);have HD:=qC hd;have wl:w.heap.size<(n2:qM).heap.size:=by simp
 clear h he CH b0 hN hX hO CW CO hd;go_enter func202,ntmps202
 go_wp2_with fail
 refine TH.out.mono ?_;rintro e w1 ⟨hr,b1⟩;have V1:=qC b1;have A1:=qC (Af B0 b1);have H1:=qC (HW.out.below A1);clear TH b1 k0 k1 k2 k3 k4 k5 k6 k7 k8 k9 k10 k11 k12 k13 c0;rcases hr with⟨hf,rfl⟩|⟨p,hf,rfl⟩
 ·have HF:Hid (Hq lo s.to=none):=qC hf;clear hf;have a0:=bL 245 w1;have n9:Nw (w1.alloc (qG #[pT none] 250)):=⟨⟩;have b2:qN w1 w1 n9:=Bg w1 _;have A2:=qC (Af A1 b2);have e6:=(HE.out.below h14 (A2.out.mono hB) 6 qQ qQ).1;have sz:B<=(n9:qM).heap.size:=qj hB A2.out.size;go_wp2_with fail
  refine(Bv 314 (pT (some (E 6))) _).mono ?_;rintro e w9 ⟨rfl,rfl⟩;go_wp2;go_ret;have b3:=Af A2 (Bg _ (qG #[.int .i64 4,.iface 314 (pT (some (E 6)))] 145));exact⟨_,rfl,4,lo,HW.out.below b3,b3.mono hB,Cz _ E sz 4 qX 6 qX qX qX qZ,.inl ⟨HF,rfl,rfl⟩⟩
 ·have HF:Hid (Hq lo s.to=some p):=qC hf;obtain⟨hp,_⟩:=AH hf;have eo:lo[p]'hp=Aa lo p:=by simp[Aa,hp]
  have HP:=qC eo;clear hf eo;by_cases h1:(Aa lo p).kind=1
  ·have ty:Fb (Aa lo p).kind=250:=(by rw[h1];rfl);rw[ty];have H1':=qC h1;clear ty h1;have n4:Na #[pT (some ⟨q,p*10,none⟩)]:=⟨⟩;have a0:=Rw 245 (.agg n4) w1;have n1:Nw (w1.alloc (qG n4 250)):=⟨⟩;have b2:qN w1 w1 n1:=Bg w1 _;have V2:=qC (Af V1 b2);have A2:=qC (Af A1 b2);have H2:=qC (HW.out.below A2);have d0:(n1:qM).cell? ⟨w1,0,none⟩=some (pT (some ⟨q,p*10,none⟩)):=(by go_simp);clear b2;go_upto_region 4 with fail
   have D0:=qC (Below.refl (n1:qM).heap.size n1).drew;have BY:Hid (∀W,qN (n1:qM).heap.size n1 W->Ag W P n6/\FA W g (t*7) X/\Di W q (p*10) (Aa lo p)/\W.cell? ⟨w1,0,none⟩=some (pT (some ⟨q,p*10,none⟩))):=qC (fun W hW=>⟨(BX W (Af V2 hW)).1,(BX W (Af V2 hW)).2.1,by
    have:=((H2.out.below hW).st.jF hp HD).1;rw[HP.out]at this;exact this,(hW.cell (p:=⟨w1,0,none⟩) sI).trans d0⟩)
   have ql2:∀W,qN (n1:qM).heap.size n1 W->q<W.heap.size:=fun W hW=>((H2.out.below hW).st.jF hp HD).2;have EL:Hid (∀args w,(callFunc 198 args).run prog w= .ok (.enter 198 args) w):=qC (enters_of func198 kR rfl);have EC:Hid (∀args w,(callFunc 175 args).run prog w= .ok (.enter 175 args) w):=qC (enters_of func175 kR rfl);have n5:Na #[.int .i64 (Aa lo p).b1,.slice (Aa lo p).c1.a (Aa lo p).c1.n (Aa lo p).c1.k]:=⟨⟩;have P1:Hid (Calls prog 198 #[.agg n4] (n1:qM).drew fun e w'=>∃v,e= .returned v/\(v= .agg n5/\qN (n1:qM).drew.heap.size (n1:qM).drew w')):=qC ((MC q (p*10) (Aa lo p).b1 (Aa lo p).c1 (n1:qM).drew (ql2 _ D0) (BY _ D0).2.2.1.c3 (BY _ D0).2.2.1.c4).mono fun _ _ h=>⟨_,h.1,rfl,h.2⟩);refine Am 11 (fun W=>qN (n1:qM).heap.size n1 W) kR ?_;have n8:Nv (pT P):=⟨⟩;refine tr 0 22 n8 D0 ?_;refine tr 1 23 n8 D0 ?_;refine tr 2 24 (pT (some ⟨P,12,none⟩)) D0 ?_;have n7:Nv (pT (some ⟨g,t*7,none⟩)):=⟨⟩;refine tr 3 25 n7 D0 ?_ (hy:=fun W h=>by obtain⟨⟨k0,k1,k2,k3,k4,k5,k6,k7,k8,k9⟩,k10,k11,k12,k13⟩:=(BY W h).1.jZ;go_simp);refine tr 4 26 n7 D0 ?_;have n3:Na X:=⟨⟩;refine tr 5 27 (.agg n3) D0 ?_ (hy:=fun W h=>by have C:=(BY W h).2.1;have y0:=C.c0;have y1:=C.c1;have y2:W.cell? ⟨g,t*7+2,none⟩=some (.slice X.c1.a X.c1.n X.c1.k):=C.c2;have y3:=C.c3;have y4:W.cell? ⟨g,t*7+4,none⟩=some (.slice X.c2.a X.c2.n X.c2.k):=C.c4;have y5:W.cell? ⟨g,t*7+5,none⟩=some (.slice X.own.a X.own.n X.own.k):=C.c5;have y6:=C.c6;go_simp);refine tr 6 28 (pT (w1)) D0 ?_;refine tr 7 29 (.agg n4) D0 ?_ (hy:=fun W h=>by have y:=(BY W h).2.2.2;go_simp);refine Ac (i:=8) kR rfl ?_;intro K hK;refine An qK 198 _ _ qK EL _ qK (some 30) qK _ P1 ?_;rintro v w3 ⟨rfl,b3⟩;have V3:=qC (Af D0 b3);refine hK _ _ (fun _=>V3) ?_;clear hK K b3 P1;simp only[ap,qF];have P2:Hid (Calls prog 175 #[.agg n3,.agg n5] w3 fun e w'=>∃v,e= .returned v/\(v= .bool (Ap X (Aa lo p).b1 (Aa lo p).c1)/\qN w3 w3 w')):=qC ((HCH p hp _ (Af A2 V3)).mono fun _ _ h=>⟨_,h.1,rfl,h.2⟩);refine Ac (i:=9) kR rfl ?_;intro K hK;refine Ay qK 175 _ _ _ qK EC _ _ qK qK (some 31) qK _ P2 ?_;rintro v w4 ⟨rfl,b4⟩;have V4:=qC (Af V3 b4);refine hK _ _ (fun _=>V4) ?_;clear hK K b4 P2;simp only[ap,qF];refine tr 10 32 (.bool (!Ap X (Aa lo p).b1 (Aa lo p).c1)) V4 ?_;refine Ai kR ?_ _;have A4:=qC (Af A2 V4);have sz:B<=w4.heap.size:=qj hB A4.out.size;cases hc:Ap X (Aa lo p).b1 (Aa lo p).c1 with
   |false=>
    have e8:=(HE.out.below h14 (A4.out.mono hB) 8 qQ qQ).1;go_wp2_with fail
    refine(Bv 314 (pT (some (E 8))) _).mono ?_;rintro e w9 ⟨rfl,rfl⟩;go_wp2;go_ret;have b3:=Af A4 (Bg _ (qG #[.int .i64 4,.iface 314 (pT (some (E 8)))] 145));exact⟨_,rfl,4,lo,HW.out.below b3,b3.mono hB,Cz _ E sz 4 qX 8 qX qX qX qZ,.inr ⟨p,HF,.inl ⟨.inr hc,rfl,rfl⟩⟩⟩
   |true=>
    have HC:=qC hc;clear hc;have W4:=qC (HW.out.below A4);have WD:=qC (W4.out.below (Below.refl _ w4).drew);obtain⟨S1,hg,cur,hcu⟩:=WD.out.setData (d:=O.data) hp HP.out.symm;have S1':=qC S1;have gf:=hcu.jC;have B5:=qC (((A4.out.drew).mono hB).setCell (p:=⟨q,p*10+5,none⟩) hg (.string O.data));have y0:w4.drew.cell? ⟨w1,0,none⟩=some (pT (some ⟨q,p*10,none⟩)):=(BY _ V4).2.2.2;have y1:w4.drew.cell? ⟨w,0,none⟩=some (pT (some ⟨q,u*10,none⟩)):=(BX _ (Af V2 V4)).2.2.2;have y2:w4.drew.cell? ⟨q,u*10+5,none⟩=some (.string O.data):=(BX _ (Af V2 V4)).2.2.1.c5;have y3:w4.drew.cell? ⟨q,p*10+5,none⟩=some (.string (Aa lo p).data):=(BY _ V4).2.2.1.c5;clear S1 d0;go_upto_region 6 with fail
    go_region_law fail
    all_goals(
     go_wp2;go_ret;exact⟨_,rfl,0,_,S1',B5,.inl ⟨rfl,rfl⟩,.inr ⟨p,HF,.inr ⟨H1',HC,rfl,rfl⟩⟩⟩)
  ·have h2:∃ty,Fb (Aa lo p).kind=ty/\(ty=252∨ty=254∨ty=256):=⟨_,rfl,WI h1⟩;obtain⟨ty,e1,e2⟩:=h2;rw[e1];have HK:=qC h1;have n10:Nw (w1.alloc (qG #[pT none] 250)):=⟨⟩;have b2:qN w1 w1 n10:=Bg w1 _;have A2:=qC (Af A1 b2);have e6:=(HE.out.below h14 (A2.out.mono hB) 6 qQ qQ).1;have sz:B<=(n10:qM).heap.size:=qj hB A2.out.size;have a0:=Sn 245 ty (.agg #[pT (some ⟨q,p*10,none⟩)]) w1 (by rcases e2 with rfl|rfl|rfl<;>decide);clear e1 h1 b2 e2
   (
    go_wp2_with fail
    refine(Bv 314 (pT (some (E 6))) _).mono ?_;rintro e w9 ⟨rfl,rfl⟩;go_wp2;go_ret;have b3:=Af A2 (Bg _ (qG #[.int .i64 4,.iface 314 (pT (some (E 6)))] 145));exact⟨_,rfl,4,lo,HW.out.below b3,b3.mono hB,Cz _ E sz 4 qX 6 qX qX qX qZ,.inr ⟨p,HF,.inl ⟨.inl HK,rfl,rfl⟩⟩⟩)
open _root_.List renaming getElem?_eq_none→kC
open _root_.Option renaming some→jV
open Go.World renaming cell?_of_block→xP
variable {w:qM}{B:Nat}{c:AE}
theorem QA(E:Nat->Addr)(w:qM)(B P:Nat)(s:Aj)(g ca q co:Nat)(lt:List Ae)(lo:List Ab)(t:Nat)(m:Value)(h:Fg w B P s g ca q co lt lo t m)(he:LY w E)(h14:14<=B)(hB:B<=w.heap.size)(u:Nat)(hu:u<lo.length)(O:Ab)(hO:O=lo[u])(hd:∀x∈lo,x.data.size<=maxLen)(hk:s.kind=9)(hf:O.jA.n=8):
 Calls prog 186 #[pT P,.agg #[pT (some ⟨q,u*10,none⟩)]] w fun e w'=>∃v,e= .returned (.tuple #[sT ⟨#[]⟩,v])/\qN B w w'/\Told w' B E v 5/\Fg w' B P s g ca q co lt lo t m:=by
 obtain⟨CO,ql⟩:=h.st.jF hu hd;rw[<-hO]at CO;have n1:Nw (w.alloc (qG #[pT (some ⟨q,u*10,none⟩)] 252)):=⟨⟩;have b0:qN w.heap.size w n1:=Bg w _;have c0:(n1:qM).cell? ⟨w.heap.size,0,none⟩=some (pT (some ⟨q,u*10,none⟩)):=by go_simp
 obtain⟨⟨k0,k1,k2,k3,k4,k5,k6,k7,k8,k9⟩,k10,k11,k12,k13⟩:=(h.wk.below b0).jZ;have y6:(n1:qM).cell? ⟨q,u*10+6,none⟩=some (qV O.jA.a O.jA.n O.jA.k):=(CO.below ql b0).c6;have HA:=qC (h.below b0);have B0:=qC b0;have HE:=qC he;have HO:=qC hO;have ON:=qC (show O.new B w by rw[hO];exact h.st.on _ (qk hu));have OC:=qC (show O.jA.n<=O.jA.k/\O.jA.k<=maxLen by rw[hO];exact h.st.oc _ (qk hu));rw[hk]at k1;rw[hf]at y6;have e5:=(HE.out.below h14 (B0.out.mono hB) 12 qQ qQ).1;have sz:B<=(n1:qM).heap.size:=qj hB B0.out.size;clear h he hO CO b0 hk hf;go_enter func186,ntmps186
 go_wp2_with fail
 refine(De 5 314 (pT (some (E 12))) _).mono ?_;rintro e w9 ⟨rfl,rfl⟩;go_wp2;go_ret2;have b3:=Af B0.out (Bg _ (qG #[.int .i64 5,.iface 314 (pT (some (E 12)))] 145));exact⟨_,rfl,b3.mono hB,Cz _ E sz 5 qX 12 qX qX qX qZ,HA.out.below (Bg _ _)⟩
theorem Qn(E:Nat->Addr)(w:qM)(B P:Nat)(s:Aj)(g ca q co:Nat)(lt:List Ae)(lo:List Ab)(t:Nat)(m:Value)(h:Fg w B P s g ca q co lt lo t m)(he:LY w E)(h14:14<=B)(hB:B<=w.heap.size)(u:Nat)(hu:u<lo.length)(O:Ab)(hO:O=lo[u])(hd:∀x∈lo,x.data.size<=maxLen)(hk:s.kind=10)(hf:O.jA.n=0):
 Calls prog 186 #[pT P,.agg #[pT (some ⟨q,u*10,none⟩)]] w fun e w'=>∃v,e= .returned (.tuple #[sT ⟨#[]⟩,v])/\qN B w w'/\Told w' B E v 6/\Fg w' B P s g ca q co lt lo t m:=by
 obtain⟨CO,ql⟩:=h.st.jF hu hd;rw[<-hO]at CO;have n1:Nw (w.alloc (qG #[pT (some ⟨q,u*10,none⟩)] 252)):=⟨⟩;have b0:qN w.heap.size w n1:=Bg w _;have c0:(n1:qM).cell? ⟨w.heap.size,0,none⟩=some (pT (some ⟨q,u*10,none⟩)):=by go_simp
 obtain⟨⟨k0,k1,k2,k3,k4,k5,k6,k7,k8,k9⟩,k10,k11,k12,k13⟩:=(h.wk.below b0).jZ;have y6:(n1:qM).cell? ⟨q,u*10+6,none⟩=some (qV O.jA.a O.jA.n O.jA.k):=(CO.below ql b0).c6;have HA:=qC (h.below b0);have B0:=qC b0;have HE:=qC he;have HO:=qC hO;have ON:=qC (show O.new B w by rw[hO];exact h.st.on _ (qk hu));have OC:=qC (show O.jA.n<=O.jA.k/\O.jA.k<=maxLen by rw[hO];exact h.st.oc _ (qk hu));rw[hk]at k1;rw[hf]at y6;have e5:=(HE.out.below h14 (B0.out.mono hB) 13 qQ qQ).1;have sz:B<=(n1:qM).heap.size:=qj hB B0.out.size;clear h he hO CO b0 hk hf;go_enter func186,ntmps186
 go_wp2_with fail
 refine(De 6 314 (pT (some (E 13))) _).mono ?_;rintro e w9 ⟨rfl,rfl⟩;go_wp2;go_ret2;have b3:=Af B0.out (Bg _ (qG #[.int .i64 6,.iface 314 (pT (some (E 13)))] 145));exact⟨_,rfl,b3.mono hB,Cz _ E sz 6 qX 13 qX qX qX qZ,HA.out.below (Bg _ _)⟩
theorem XT(h:c.new B w)(hk:c.n<=c.k/\c.k<=maxLen)(ht:c.tight):FV w B (qV c.a c.n c.k) c.n c.f:=by
 refine⟨by simp[JY],?_⟩;by_cases h0:0<c.n
 ·obtain⟨b,m,F,e,h1,⟨h2,rfl⟩,cur,hc,hs,hF⟩:=h.2 h0;obtain⟨b',off,e',hlt,hcc⟩:=h.1.2.1 h0;rw[e]at e';cases e';refine .inr ⟨b,c.k,cur,by rw[e],h1,hc,hk.1,hk.2,by rw[hs,Nat.mul_one],?_⟩;refine List.ext_getElem? (fun i=>?_);rw[Nat.mul_one];by_cases hi:i<c.n
  ·have hv:=hcc i hi;simp only[World.cell?,hc]at hv;rw[List.getElem?_take_of_lt hi];simp[JY,hi];simpa using hv
  ·rw[kC sO,kC (by simp[JY];omega)]
 ·obtain⟨e1,e2⟩:=ht qQ;have e3:c.n=0:=by omega
  exact .inl ⟨by rw[e1,e2,e3],e3⟩
theorem MF(h:c.new B w)(ht:c.tight):∀b,(Value.slice c.a c.n c.k).ownBlock=some b->b∈c.bs/\∃m F,w.rowIs b 9 m F:=fun b e=>by
 by_cases h0:0<c.n
 ·obtain⟨b',m,F,e',h1,_,hr⟩:=h.2 h0;rw[e']at e;simp only[Value.ownBlock,jV.injEq]at e;subst e;exact⟨by unfold AE.bs;rw[if_pos h0,e'];simp,m,F,hr⟩
 ·obtain⟨e1,e2⟩:=ht qQ;rw[e1]at e;cases e
theorem MG{ops:Array Oper}{o:Oper}{a:Act}{w:qM}{K:Act->qM->Prop}{Q:Exit->Act->qM->Prop}{E:Prop}(hgd:o.guard=none)(s x:Operand)
 (ho:o.op= .call {callee:= .builtin .append,args:=#[s,x],argTypes:=#[57,57]})
 (B:Nat)(v:Value)(n:Nat)(f:Nat->ByteArray)(hs:a.eval s=v)(hown:FV w B v n f)(ad:Option Addr)(c:Nat)(y:ByteArray)(hx:a.eval x= qV ad 1 c)(hc:Bl w ad 1 [sT y])
 (hm:n<=1048576)(hB:B<=w.heap.size)(d:Option Nat)(hd:o.dst=d)
 (h:∀a' c' w',FV w' B (qV a' (n+1) c') (n+1) (Dw n f y)->w.grownBy w' v.ownBlock->((Value.slice a' (n+1) c').ownBlock=v.ownBlock∨(Value.slice a' (n+1) c').ownBlock=some w.heap.size)->K (a.put d (qV a' (n+1) c')) w'):
 if jW o (yielded ops a.tmps)=true then Oper.wp prog o a w K Q else E:=by
 have hw:jW o (yielded ops a.tmps)=true:=by simp[jW,hgd]
 rw[if_pos hw];refine DO underlying57 Tryz.info9 rfl qQ w s x ho B v n (JY n f) hs hown ad 1 c [sT y] hx rfl hc (fun u hu=>by simp at hu;subst hu;rfl) qQ qQ hB fun a' c' w' h2 h3 h4=>?_;rw[<-Rl]at h2;rw[hd];exact h a' c' w' h2 h3 h4
theorem Sf(w:qM)(B P:Nat)(s:Aj)(g ca q co:Nat)(lt:List Ae)(lo:List Ab)(t:Nat)(m:Value)(h:Fg w B P s g ca q co lt lo t m)(hB:B<=w.heap.size)(u:Nat)(hu:u<lo.length)(O:Ab)(hO:O=lo[u])(hd:∀x∈lo,x.data.size<=maxLen)(hk:s.kind=9)(hf:O.jA.n≠8)(hl:O.jA.n<=1000)(ht:O.jA.tight)(hsd:s.data.size<=maxLen):
 Calls prog 186 #[pT P,.agg #[pT (some ⟨q,u*10,none⟩)]] w fun e w'=>∃(a:Option Addr) (cc:Nat),e= .returned (.tuple #[sT ⟨#[]⟩,.nilIface])/\Fg w' B P s g ca q co lt (lo.set u ⟨O.id,O.kind,O.up,O.b1,O.c1,O.data,⟨a,O.jA.n+1,cc,Dw O.jA.n O.jA.f s.data⟩,O.own,O.b2,O.c2⟩) t m/\qN B w w':=by
 obtain⟨CO,ql⟩:=h.st.jF hu hd;rw[<-hO]at CO;have n1:Nw (w.alloc (qG #[pT (some ⟨q,u*10,none⟩)] 252)):=⟨⟩;have b0:qN w.heap.size w n1:=Bg w _;have n5:Nv (pT (some ⟨q,u*10,none⟩)):=⟨⟩;have c0:(n1:qM).cell? ⟨w.heap.size,0,none⟩=some (pT (some ⟨q,u*10,none⟩)):=by go_simp
 obtain⟨⟨k0,k1,k2,k3,k4,k5,k6,k7,k8,k9⟩,k10,k11,k12,k13⟩:=(h.wk.below b0).jZ;have y6:(n1:qM).cell? ⟨q,u*10+6,none⟩=some (qV O.jA.a O.jA.n O.jA.k):=(CO.below ql b0).c6;have HA:=qC (h.below b0);have B0:=qC b0;have HO:=qC hO;have ON:=qC (show O.new B w by rw[hO];exact h.st.on _ (qk hu));have OC:=qC (show O.jA.n<=O.jA.k/\O.jA.k<=maxLen by rw[hO];exact h.st.oc _ (qk hu));rw[hk]at k1;have f1:¬(O.jA.n:Int)=8:=by omega
 have f2:((O.jA.n:Int)==8)=false:=by simpa using f1
 have n2:No (qG (IN s g lt.length ca q lo.length co t m) 175):=⟨⟩;have Z1:Hid ((fun W=>Ag W P n2/\W.cell? ⟨w.heap.size,0,none⟩=some (pT (some ⟨q,u*10,none⟩))/\W.cell? ⟨q,u*10+6,none⟩=some (qV O.jA.a O.jA.n O.jA.k)) (n1:qM).drew):=qC ⟨HA.out.wk,c0,y6⟩;have n4:No (qG #[sT s.data] 9):=⟨⟩;have BA:qN (n1:qM).heap.size n1 ((n1:qM).alloc n4).drew:=(Bg n1 _).drew;have ql1:q<(n1:qM).heap.size:=qv ql b0.size;have ZA:Hid ((fun W=>Ag W P n2/\W.cell? ⟨w.heap.size,0,none⟩=some (pT (some ⟨q,u*10,none⟩))/\W.cell? ⟨q,u*10+6,none⟩=some (qV O.jA.a O.jA.n O.jA.k)) ((n1:qM).alloc n4).drew):=qC ⟨HA.out.wk.below BA,(BA.cell (p:=⟨w.heap.size,0,none⟩) sI).trans c0,(BA.cell (p:=⟨q,u*10+6,none⟩) ql1).trans y6⟩;have SA:=qC (HA.out.below BA);have BB:=qC (Af B0.out BA);have NA:=qC (ON.out.2.1.below BB.out);have LA:Hid (Bl ((n1:qM).alloc n4).drew (some ⟨w.heap.size+1,0,none⟩) 1 [sT s.data]):=qC (by have h:=Jr n1 s.data;rw[show(n1:qM).heap.size=w.heap.size+1 from by simp]at h;exact h);have HT:=qC ht;clear h hO CO b0 hk hf;go_enter func186,ntmps186
 go_upto_region 4 with fail
 refine Am 18 (fun W=>Ag W P n2/\W.cell? ⟨w.heap.size,0,none⟩=some (pT (some ⟨q,u*10,none⟩))/\W.cell? ⟨q,u*10+6,none⟩=some (qV O.jA.a O.jA.n O.jA.k)) kR ?_;have n3:Nv (pT (w.heap.size)):=⟨⟩;refine tr 0 23 n3 Z1.out ?_;refine tr 1 24 n3 Z1.out ?_;refine tr 2 25 n5 Z1.out ?_ (hy:=fun W h=>by have y:=h.2.1;go_simp);refine tr 3 26 n3 Z1.out ?_;refine tr 4 27 n3 Z1.out ?_;refine tr 5 28 n5 Z1.out ?_ (hy:=fun W h=>by have y:=h.2.1;go_simp);refine tr 6 29 n5 Z1.out ?_;refine tr 7 30 (pT (some ⟨q,u*10+6,none⟩)) Z1.out ?_;refine tr 8 31 (qV O.jA.a O.jA.n O.jA.k) Z1.out ?_ (hy:=fun W h=>by have y:=h.2.2;go_simp);have n6:Nv (pT P):=⟨⟩;refine tr 9 32 n6 Z1.out ?_;refine tr 10 33 n6 Z1.out ?_;refine tr 11 34 n6 Z1.out ?_;refine tr 12 35 (pT (some ⟨P,5,none⟩)) Z1.out ?_;refine tr 13 36 (sT s.data) Z1.out ?_ (hy:=fun W h=>by obtain⟨⟨k0,k1,k2,k3,k4,k5,k6,k7,k8,k9⟩,k10,k11,k12,k13⟩:=h.1.jZ;go_simp);refine oO 14 ?_ (hS:=fun _=>ZA.out);try simp only[ap,qF]
 refine Ac (i:=15) kR rfl ?_;intro K hK;refine MG qK _ _ qK B _ O.jA.n O.jA.f qK (XT NA.out OC.out HT.out) (some ⟨w.heap.size+1,0,none⟩) 1 s.data qK LA.out qQ (qj hB BB.out.size) (some 38) qK ?_;intro a3 c3 w3 o3 g3 e3;have NL:=FV.newL o3 qQ (fun i hi=>by unfold Dw;split;exact NA.out.1.2.2 i (by assumption);exact hsd);obtain⟨S4,⟨cur,hcu⟩,hBq,wk3,rw3⟩:=SA.out.itemRow hu HO.out (MF NA.out HT.out) g3 (d:=⟨a3,O.jA.n+1,c3,Dw O.jA.n O.jA.f s.data⟩) NL.1 NL.2 (fun b hb=>by
  unfold AE.bs at hb;simp only[Nat.zero_lt_succ,if_true]at hb;rcases e3 with e|e
  ·refine .inl (MF NA.out HT.out b ?_).1;rw[<-e];cases a3 with
   |none=>cases hb
   |some p=>simp at hb;rw[hb];rfl
  ·refine .inr ?_;cases a3 with
   |none=>cases hb
   |some p=>simp at hb;subst hb;simp only[Value.ownBlock,jV.injEq]at e;rw[e];exact Nat.le_refl _)
 have n7:Nw ((w.alloc (qG #[pT (some ⟨q,u*10,none⟩)] 252)).alloc n4):=⟨⟩;have gq:∀P',P'<(n7:qM).drew.heap.size->P'≠P'∨((Value.slice O.jA.a O.jA.n O.jA.k).ownBlock≠some P')->w3.heap[P']? =(n7:qM).drew.heap[P']?:=fun P' h1 h2=>g3.block P' h1 (fun e=>by rcases h2 with h2|h2;exact h2 rfl;exact h2 e.symm);have c6:w3.cell? ⟨q,u*10+6,none⟩=some (qV O.jA.a O.jA.n O.jA.k):=(xP (a:=⟨q,u*10+6,none⟩) (gq q (qv ql1 BA.size) (.inr fun e=>(rw3 q e).2.1 rfl))).trans ZA.out.2.2;have hH:w.heap.size<B∨B<=w.heap.size:=by omega
 have cH:w3.cell? ⟨w.heap.size,0,none⟩=some (pT (some ⟨q,u*10,none⟩)):=(xP (a:=⟨w.heap.size,0,none⟩) (gq w.heap.size (qv sI BA.size) (.inr fun e=>by
  have:=(ON.out.2.1.bs.2 _ (MF NA.out HT.out _ e).1).2;omega))).trans ZA.out.2.1
 have Z3:Hid ((fun W=>Ag W P n2/\W.cell? ⟨w.heap.size,0,none⟩=some (pT (some ⟨q,u*10,none⟩))/\W.cell? ⟨q,u*10+6,none⟩=some (qV O.jA.a O.jA.n O.jA.k)) w3):=qC ⟨wk3,cH,c6⟩;have S4':=qC S4;have gf:=hcu.jC;have B3:Hid (qN B w w3):=qC ((BB.out.mono hB).trans (below_grown g3 (qj hB BB.out.size) (fun j e=>(rw3 j e).1)));have KK:=hK;refine KK.out _ _ (fun _=>Z3.out) ?_;clear hK KK K S4 NL o3 g3 e3 wk3 rw3 gq cH hH;simp only[ap,qF];refine oO 16 ?_ (hS:=fun _=>Z3.out);try simp only[ap,qF]
 refine oO 17 ?_ (hS:=fun _=>Z3.out);try simp only[ap,qF]
 refine oO 18 ?_;try simp only[Act.put]
 refine Ai kR ?_ _;have B4:=qC (B3.out.setCell (p:=⟨q,u*10+6,none⟩) hBq (qV a3 (O.jA.n+1) c3));go_wp2;go_ret2;exact⟨rfl,⟨a3,c3,S4'.out⟩,B4.out⟩
theorem Fg.takeF{wr:qM}{P:Nat}{s:Aj}{g ca q co:Nat}{lt:List Ae}{lo:List Ab}{t:Nat}{m:Value}(h:Fg wr B P s g ca q co lt lo t m){u b:Nat}(hu:u<lo.length){O:Ab}(hO:O=lo[u])(hn:O.jA.n≠0)(hb:O.jA.a=some ⟨b,0,none⟩){o kk:Nat}(hok:O.jA.n=1∨o=1):
 Pk (wr.setCell ⟨q,u*10+6,none⟩ (qV (some ⟨b,o,none⟩) (O.jA.n-1) kk)) B P s g ca q co lt (lo.set u ⟨O.id,O.kind,O.up,O.b1,O.c1,O.data,⟨some ⟨b,o,none⟩,O.jA.n-1,kk,fun i=>O.jA.f (i+1)⟩,O.own,O.b2,O.c2⟩) t m/\B<=q/\∃cur,Ag wr q (qG cur 59):=by
 have ho:=h.st.o;obtain⟨cur,hcur⟩:∃cur,Ag wr q (qG cur 59):=by
  rcases ho.2 with⟨hv,_⟩|⟨g',cap,cur,hv,_,hgg,_⟩
  ·cases hv
  ·cases hv;exact⟨cur,hgg⟩
 have hBg:B<=q:=(qq.lt ho q rfl).1;have el:(lo.set u (⟨O.id,O.kind,O.up,O.b1,O.c1,O.data,⟨some ⟨b,o,none⟩,O.jA.n-1,kk,fun i=>O.jA.f (i+1)⟩,O.own,O.b2,O.c2⟩:Ab)).length=lo.length:=by simp
 have n1:Nv (qV (some ⟨b,o,none⟩) (O.jA.n-1) kk):=⟨⟩;have kl:=Aq (i:=u*10+6) hcur qX n1;have ho':=(qq.stored ho (u*10+6) n1).1;have hx:=h.st.on _ (qk hu);rw[<-hO]at hx;obtain⟨b',m',F,e',hB',hm',hr⟩:=hx.2.1.2 qQ;rw[hb]at e';cases e';obtain⟨b'',off,e'',hlt,hcc⟩:=hx.2.1.1.2.1 qQ;rw[hb]at e'';cases e'';have tn:(⟨some ⟨b,o,none⟩,O.jA.n-1,kk,fun i=>O.jA.f (i+1)⟩:AE).jH B wr:=by
  refine⟨⟨by have:=hx.2.1.1.1;show O.jA.n-1<=maxLen;omega,fun h0=>⟨b,o,rfl,hlt,fun i hi=>?_⟩,fun i hi=>hx.2.1.1.2.2 (i+1) (by simp only at hi;omega)⟩,fun h0=>⟨b,o,m',F,rfl,hB',by simp only at h0 ⊢;omega,hr⟩⟩;have hi':i+1<O.jA.n:=by simp only at hi;omega
  have eo:o=1:=by omega
  subst eo;have:=hcc (i+1) hi';rw[show 1+i=0+(i+1) from by omega];exact this
 have bse:O.jA.bs=[b]:=by unfold AE.bs;rw[if_pos qQ,hb]
 have tb:∀x∈(⟨some ⟨b,o,none⟩,O.jA.n-1,kk,fun i=>O.jA.f (i+1)⟩:AE).bs,x∈O.jA.bs:=fun x hx'=>by
  rw[bse];unfold AE.bs at hx';split at hx'
  ·exact hx'
  ·cases hx'
 have td:(⟨some ⟨b,o,none⟩,O.jA.n-1,kk,fun i=>O.jA.f (i+1)⟩:AE).bs.Nodup:=by
  unfold AE.bs;split
  ·simp
  ·simp
 have hn':O.cb.Nodup:=Dr (L:=lo.map Ab.cb) (S:=(lt.map Ae.cb).flatten) (t:=u) (by simp[hu,hO]) (jz.nodup_iff.2 h.ap.c);have hi:O.own.bs.Nodup:=Dr (L:=lo.map fun x=>x.own.bs) (S:=(lt.map fun x=>x.own.bs).flatten) (t:=u) (by simp[hu,hO]) (jz.nodup_iff.2 h.ap.i);have nq:∀x∈lo,∀b∈x.jA.bs,b≠q:=fun x hx2 b2 hb2 e=>by
  have hxx:=(h.st.on x hx2).2.1;unfold AE.bs at hb2;split at hb2
  ·rename_i h0;obtain⟨b3,m3,F3,e3,_,_,c3,hc3,_⟩:=hxx.2 h0;rw[e3]at hb2;have:=List.mem_singleton.1 hb2;simp only at this;subst this;have hq:=hcur;unfold Ag at hq;rw[<-e,hc3]at hq;simp at hq
  ·cases hb2
 have strF:∀{c:AE},c.jH B wr->(∀b∈c.bs,b≠q)->c.jH B (wr.setCell ⟨q,u*10+6,none⟩ (qV (some ⟨b,o,none⟩) (O.jA.n-1) kk)):=fun{c} hc hne=>hc.of (by simp[World.setCell]) (fun b2 hb2=>Below.heap_setCell _ _ _ _ (fun(e:b2=q)=>hne b2 hb2 e));refine⟨⟨⟨h.st.t.set hcur qX _,?_,fun y hy=>(h.st.tn y hy).keeps kl,fun y hy=>?_⟩,h.ap.setO h.st hu (x:=⟨O.id,O.kind,O.up,O.b1,O.c1,O.data,⟨some ⟨b,o,none⟩,O.jA.n-1,kk,fun i=>O.jA.f (i+1)⟩,O.own,O.b2,O.c2⟩) hn' (fun b hb=> .inl (by rw[<-hO];exact hb)) hi (fun b hb=> .inl (by rw[<-hO];exact hb)) td (fun b hb=> .inl (by rw[<-hO];exact tb b hb)),by rw[el];exact h.wk.other (Ne.symm h.setQ) _⟩,hBg,cur,hcur⟩
 ·unfold AW;have e:=Dl (f:=Ab.cs) Ab.jK (l:=lo) (t:=u) (x:=(⟨O.id,O.kind,O.up,O.b1,O.c1,O.data,⟨some ⟨b,o,none⟩,O.jA.n-1,kk,fun i=>O.jA.f (i+1)⟩,O.own,O.b2,O.c2⟩:Ab)) (u:= qV (some ⟨b,o,none⟩) (O.jA.n-1) kk) (i:=6) hu qQ (by rw[<-hO];rfl);rw[el];unfold Ax;rw[<-e];exact ho'
 ·obtain⟨j,hj,rfl⟩:=List.getElem_of_mem hy;rw[List.getElem_set];split
  ·exact⟨hx.1.keeps kl,strF tn (fun b2 hb2=>nq O (by rw[hO];exact qk hu) b2 (tb b2 hb2)),hx.2.2.1.keeps kl,hx.2.2.2.keeps kl⟩
  ·have hj':j<lo.length:=(by simpa using hj);have hy':=h.st.on _ (qk hj');exact⟨hy'.1.keeps kl,strF hy'.2.1.f (nq _ (qk hj')),hy'.2.2.1.keeps kl,hy'.2.2.2.keeps kl⟩
theorem Qp(w:qM)(B P:Nat)(s:Aj)(g ca q co:Nat)(lt:List Ae)(lo:List Ab)(t:Nat)(m:Value)(h:Fg w B P s g ca q co lt lo t m)(hB:B<=w.heap.size)(u:Nat)(hu:u<lo.length)(O:Ab)(hO:O=lo[u])(hd:∀x∈lo,x.data.size<=maxLen)(hk:s.kind=10)(hf:O.jA.n≠0)(hl:O.jA.n<=1000):
 Calls prog 186 #[pT P,.agg #[pT (some ⟨q,u*10,none⟩)]] w fun e w'=>e= .returned (.tuple #[sT (O.jA.f 0),.nilIface])/\(∃(a:Option Addr) (kk:Nat),Pk w' B P s g ca q co lt (lo.set u ⟨O.id,O.kind,O.up,O.b1,O.c1,O.data,⟨a,O.jA.n-1,kk,fun i=>O.jA.f (i+1)⟩,O.own,O.b2,O.c2⟩) t m)/\qN B w w':=by
 obtain⟨CO,ql⟩:=h.st.jF hu hd;rw[<-hO]at CO;have n7:Nw (w.alloc (qG #[pT (some ⟨q,u*10,none⟩)] 252)):=⟨⟩;have b0:qN w.heap.size w n7:=Bg w _;have c0:(n7:qM).cell? ⟨w.heap.size,0,none⟩=some (pT (some ⟨q,u*10,none⟩)):=by go_simp
 obtain⟨⟨k0,k1,k2,k3,k4,k5,k6,k7,k8,k9⟩,k10,k11,k12,k13⟩:=(h.wk.below b0).jZ;have y6:(n7:qM).cell? ⟨q,u*10+6,none⟩=some (qV O.jA.a O.jA.n O.jA.k):=(CO.below ql b0).c6;have HA:=qC (h.below b0);have B0:=qC b0;have HO:=qC hO;have ON:=qC (show O.new B w by rw[hO];exact h.st.on _ (qk hu));have OC:=qC (show O.jA.n<=O.jA.k/\O.jA.k<=maxLen by rw[hO];exact h.st.oc _ (qk hu));rw[hk]at k1;have f1:¬(O.jA.n:Int)=0:=by omega
 have f2:((O.jA.n:Int)==0)=false:=by simpa using f1
 obtain⟨b,mm,F,ea,hb1,hb2,hr⟩:=ON.out.2.1.2 qQ;obtain⟨b',off,ea',hlt,hcc⟩:=ON.out.2.1.1.2.1 qQ;rw[ea]at ea';cases ea';have i0:(n7:qM).cell? ⟨b,0,none⟩=some (sT (O.jA.f 0)):=(b0.cell (p:=⟨b,0,none⟩) hlt).trans (hcc 0 qQ);rw[ea]at y6;have z0:(n7:qM).drew.cell? ⟨w.heap.size,0,none⟩=some (pT (some ⟨q,u*10,none⟩)):=c0;have z6:(n7:qM).drew.cell? ⟨q,u*10+6,none⟩=some (qV b O.jA.n O.jA.k):=y6;have HD:=qC (HA.out.below (Below.refl _ _).drew);have n1:1<=O.jA.n:=by omega
 have n2:(1:Int)<=(O.jA.n:Int):=by omega
 have n3:1<=O.jA.k:=qj n1 OC.out.1;have n4:(0:Int)<(O.jA.n:Int):=by omega
 have n5:0<O.jA.n:=by omega
 have n6:O.jA.n<=O.jA.k:=OC.out.1;by_cases hk1:O.jA.k=1
 ·obtain⟨S1,hg,cur,hcu⟩:=HD.out.takeF hu HO.out hf ea (o:=0) (kk:=0) (.inl qQ);have S1':=qC S1;have gf:=hcu.jC;have B1:=qC (((B0.out.drew).mono hB).setCell (p:=⟨q,u*10+6,none⟩) hg (qV b (O.jA.n-1) 0));rw[hk1]at y6 z6;clear h hO CO b0 hk hf S1 hcc;go_enter func186,ntmps186
  go_upto_region 9 with fail
  generalize (n7:qM)=V at *;go_region_law fail
  all_goals(
   go_wp2;go_ret2;exact⟨rfl,⟨_,_,S1'.out⟩,B1.out⟩)
 ·obtain⟨S1,hg,cur,hcu⟩:=HD.out.takeF hu HO.out hf ea (o:=1) (kk:=O.jA.k-1) (.inr rfl);have S1':=qC S1;have gf:=hcu.jC;have B1:=qC (((B0.out.drew).mono hB).setCell (p:=⟨q,u*10+6,none⟩) hg (qV (some ⟨b,1,none⟩) (O.jA.n-1) (O.jA.k-1)));clear h hO CO b0 hk hf S1 hcc;go_enter func186,ntmps186
  go_upto_region 9 with fail
  generalize (n7:qM)=V at *;go_region_law fail
  all_goals(
   go_wp2;go_ret2;exact⟨rfl,⟨_,_,S1'.out⟩,B1.out⟩)
end Go.Proofs.YtdaccbddcjlkpaaGreatDoor
