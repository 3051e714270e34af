import Derived.Test.YtblapfnglojgjaaGreatDoorZ36k
set_option maxRecDepth 100000
set_option maxHeartbeats 16000000
namespace Go.Proofs.YtblapfnglojgjaaGreatDoor
open Go Go.RowKit Go.Deep Go.Maps Go.BigFrame Go.Shelf Go.Proofs.Tryz
variable {L R R' l:List UInt8}{ts:List TD}{os:List OD}{i g c k:Nat}{w V:World}
def ci(r:Option (List TD×List OD))(w w':World)(e:Ending):Prop:=match r with
 |none=>e= .returned (.tuple #[.agg #[.slice none 0 0,.slice none 0 0],.bool false])/\Below w w w'
 |some p=>∃(ta oa:Option Addr) (ca co:Nat) (lt:List Af) (lo:List Ae),e= .returned (.tuple #[.agg #[.slice ta lt.length ca,.slice oa lo.length co],.bool true])/\(Dm ta ca oa co lt lo).at w'/\(Dd p.1 p.2).same (Dm ta ca oa co lt lo)/\Below w w w'
theorem Fi(tmps:Array Value)(W:World)(P:Nat)(b:Bool)(x y:Value)(h:Ai W P (.cells #[x,y] 27))(h2:tmps[2]? =some (.pointer P))(h3:tmps[3]? =some (.bool b)):
 (results Tryz.f11 tmps).run prog W= .ok (.tuple #[.agg #[x,y],.bool b]) W:=by
 obtain⟨z0,z1⟩:=h.two;simp[results,Tryz.results11,go_sem,h2,h3,z0,z1]
def WX(x:Int):Prop:= -1<=x/\x<=10000000000
theorem Nr(w:List UInt8):WX (Bb w):=by
 unfold Bb CF;by_cases h:okD w=true
 ·rw[if_pos h,if_pos h];unfold okD at h;simp only[Bool.and_eq_true,decide_eq_true_eq]at h;have h1:=Ww w h.2;have h2:10^w.length<=10^10:=Nat.pow_le_pow_right (by omega) h.1.1.2;exact⟨by omega,by omega⟩
 ·rw[if_neg h];exact⟨by omega,by omega⟩
def Vd(L R:List UInt8)(ts:List TD)(os:List OD):Prop:=ts.length+os.length+R.length<=L.length/\∀o∈os,o.jA.length+R.length<=L.length/\(∀y∈o.jA,y.length<=L.length)/\WX o.id/\WX o.up
theorem Vd.thr(d:TD)(h:Vd L R ts os)(hR:R'.length+1<=R.length):Vd L R' (ts++[d]) os:=⟨by have:=h.1;simp;omega,fun o ho=>⟨by have:=(h.2 o ho).1;omega,(h.2 o ho).2⟩⟩
theorem Vd.obj(d:OD)(hd:d.jA=[])(n1:WX d.id)(n2:WX d.up)(h:Vd L R ts os)(hR:R'.length+1<=R.length):Vd L R' ts (os++[d]):=⟨by have:=h.1;simp;omega,fun o ho=>by
 rcases List.mem_append.1 ho with ho|ho
 ·exact⟨by have:=(h.2 o ho).1;omega,(h.2 o ho).2⟩
 ·rw[List.mem_singleton.1 ho,hd];exact⟨by have:=h.1;simp;omega,(fun y hy=>by cases hy),n1,n2⟩⟩
theorem Vd.dat{l:List UInt8}(hi:i+1=os.length)(h:Vd L R ts os)(hR:R'.length+1<=R.length):Vd L R' ts (Ia os fun o=>{o with data:=l}):=by
 rw[Dn hi];refine⟨by have:=h.1;simp;omega,fun o ho=>?_⟩;rcases List.mem_or_eq_of_mem_set ho with ho|rfl
 ·exact⟨by have:=(h.2 o ho).1;omega,(h.2 o ho).2⟩
 ·have:=h.2 (os.getD i zO) (by simp[show i<os.length from by omega]);exact⟨by have:=this.1;simp only;omega,this.2⟩
theorem Vd.itm(hi:i+1=os.length)(h:Vd L R ts os)(hR:R'.length+1<=R.length)(hl:l.length<=L.length):Vd L R' ts (Ia os fun o=>{o with jA:=o.jA++[l]}):=by
 rw[Dn hi];refine⟨by have:=h.1;simp;omega,fun o ho=>?_⟩;rcases List.mem_or_eq_of_mem_set ho with ho|rfl
 ·exact⟨by have:=(h.2 o ho).1;omega,(h.2 o ho).2⟩
 ·have:=h.2 (os.getD i zO) (by simp[show i<os.length from by omega]);refine⟨by have:=this.1;simp only[List.length_append,List.length_cons,List.length_nil];omega,fun y hy=>?_,this.2.2⟩;rcases List.mem_append.1 hy with hy|hy
  ·exact this.2.1 y hy
  ·rw[List.mem_singleton.1 hy];exact hl
theorem Wn(h0:R≠[])(hf:(Ak 10 R).2.2=true):Dr ts os R=match Ka ts os (Ak 10 R).1 with
 |none=>none
 |some p=>Dr p.1 p.2 (Ak 10 R).2.1:=by
 show Ja (R.length+1) ts os R=_;rw[Ja,if_neg h0,if_pos hf];cases Ka ts os (Ak 10 R).1 with
 |none=>rfl
 |some p=>exact Lg _ _ _ _ _ (by have:=I6 hf;omega) (Nat.lt_succ_self _)
theorem VI(h0:R≠[])(hf:(Ak 10 R).2.2=false):Dr ts os R=none:=by
 show Ja (R.length+1) ts os R=_;rw[Ja,if_neg h0,if_neg (by rw[hf];decide)]
theorem Vd.wfs(h:Vd L R ts os):(Dd ts os).wfs:=fun i hi=>by
 have hi':i<os.length:=hi;obtain⟨_,_,h1,h2⟩:=h.2 (os.getD i zO) (by simp[hi']);have f:∀{x:Int},WX x->(Lit.int .i64 x).wf=true:=fun{x} hx=>by
  have a:=hx.1;have b:=hx.2;have e1:IntKind.i64.min= -9223372036854775808:=rfl;have e2:IntKind.i64.max=9223372036854775807:=rfl;simp only[Lit.wf,Bool.and_eq_true,decide_eq_true_eq,e1,e2];omega
 exact⟨f h1,f h2⟩
theorem RX(l:List UInt8):(bytesOf l).toList.isEmpty=decide (l=[]):=by
 rw[Ib,Au];by_cases h:l=[]<;>simp[h]
theorem Gm.dats{wr:World}{vt vo:Value}{lt:List Af}{lo:List Ae}(h:Gm w wr ts os vt vo lt lo):∀x∈lo,x.data.size<=maxLen:=fun x hx=>by
 obtain⟨i,hi,rfl⟩:=List.getElem_of_mem hx;have s:=h.sO i (by rw[<-h.lO];exact hi);rw[FT hi]at s;obtain⟨_,_,_,_,_,e,_⟩:=s;rw[e];show(bytesOf (os.getD i zO).data).size<=maxLen;rw[Au];have:os.getD i zO∈os:=by
  have hi':i<os.length:=by rw[<-h.lO];exact hi
  simp[hi']
 have:=h.dz _ this;unfold maxLen;omega
theorem ZG(R:List UInt8)(c:UInt8)(w:World)(hR:R.length<=1048576):Calls prog 28 #[.string (bytesOf R),.int .u8 c.toNat] w fun e w'=>e= .returned (.tuple #[.string (bytesOf (Ak c R).1),.string (bytesOf (Ak c R).2.1),.bool (Ak c R).2.2])/\Below w w w':=by
 have h:=Jj (bytesOf R) c w (by rw[Au];unfold maxLen;omega);rw[AM]at h;exact h
theorem Wz(l:List UInt8)(w:World)(h:l.length<=1048576):Calls prog 31 #[.string (bytesOf l)] w (Gg (Al l) w):=by
 have:=SG (bytesOf l) w (by rw[Au];exact h);rw[AM]at this;exact this
def KM(ts:List TD)(os:List OD)(wd tl:List UInt8):Option (List TD×List OD):=
 if wd=Gh/\4<=(Aj tl).length then some (ts++[Qb (Aj tl)],os)
 else if wd=Fj/\5<=(Aj tl).length then some (ts,os++[Qk (Aj tl)])
 else if wd=Hz/\0<os.length then some (ts,Ia os fun o=>{o with data:=tl})
 else if wd=En/\0<os.length then some (ts,Ia os fun o=>{o with jA:=o.jA++[tl]})
 else none
theorem aH(ts:List TD)(os:List OD)(l:List UInt8):Ka ts os l=KM ts os (Ak 32 l).1 (Ak 32 l).2.1:=rfl
theorem cr(B:Nat)(w:World):AX.new B w ⟨none,0,0,fun i=>bytesOf (([]:List (List UInt8)).getD i [])⟩:=⟨⟨Nat.zero_le _,fun h=>absurd h (Nat.lt_irrefl _),fun _ h=>absurd h (Nat.not_lt_zero _)⟩,fun h=>absurd h (Nat.lt_irrefl _)⟩
theorem WY(L:List UInt8):(Aj L).length<=L.length+1:=by
 induction L with
 |nil=>simp[Aj]
 |cons b l ih=>
  rw[Aj];split
  ·simp;omega
  ·split
   ·simp
   ·rename_i x r e;rw[e]at ih;simp at ih ⊢;omega
theorem Za(L:List UInt8):∀x∈Aj L,x.length<=L.length:=by
 induction L with
 |nil=>intro x hx;simp[Aj]at hx;subst hx;simp
 |cons b l ih=>
  intro x hx;rw[Aj]at hx;split at hx
  ·rcases List.mem_cons.1 hx with rfl|hx
   ·simp
   ·have:=ih x hx;simp;omega
  ·split at hx
   ·rename_i he;exact absurd he (QI l)
   ·rename_i y r he;rw[he]at ih;rcases List.mem_cons.1 hx with rfl|hx
    ·have:=ih y (List.mem_cons_self ..);simp;omega
    ·have:=ih x (List.mem_cons_of_mem _ hx);simp;omega
theorem Oh{ws:List (List UInt8)}(h:Bq V 0 (.slice g ws.length c) ws)(hz:∀x∈ws,x.length<=1048576)(hk:k<ws.length)(cap:Nat)(W:World)(hW:Below V V W):
 Calls prog 30 #[.slice (some ⟨g,k,none⟩) 1 cap] W fun e w'=>∃v,e= .returned v/\Yj (Bb (ws.getD k [])) W v w':=by
 have e:ws.getD k []=ws[k]:=by simp[hk]
 refine(Ng (some ⟨g,k,none⟩) cap [ws[k]] W (by simp) (fun x hx=>?_) (fun _=>⟨g,k,rfl,Nat.lt_of_lt_of_le h.lt.2 hW.size,fun i u hu=>?_⟩)).mono ?_
 ·rw[List.mem_singleton.1 hx];exact hz _ (List.getElem_mem hk)
 ·have i0:i=0:=by
   rcases Nat.lt_or_ge i 1 with h1|h1
   ·omega
   ·simp[List.getElem?_eq_none (show[ws[k]].length<=i from by simpa using h1)]at hu
  subst i0;simp at hu;subst hu;exact(hW.cell (p:=⟨g,k,none⟩) h.lt.2).trans (h.cells k _ (List.getElem?_eq_getElem hk))
 ·rintro e' w' ⟨q,d,rfl,hO,hb⟩;refine⟨_,rfl,q,d,rfl,hO.lt.2,?_,hb⟩;rw[e];exact hO.cells 0 _ rfl
theorem WP{A:Option Addr}{ws:List (List UInt8)}(h:Bq V 0 (.slice g ws.length c) ws)(hz:∀x∈ws,x.length<=1048576)(hl:ws.length<=1048576)(hk:k<=ws.length)(hA:A=if c=k then some ⟨g,0,none⟩else some ⟨g,k,none⟩)(cap:Nat)(W:World)(hW:Below V V W):
 Calls prog 30 #[.slice A (ws.length-k) cap] W fun e w'=>∃v,e= .returned v/\ZO ((ws.drop k).map Bb) (ws.length-k) W v w':=by
 have el:(ws.drop k).length=ws.length-k:=by simp
 have hc:ws.length<=c:=(FN h).1;have:=Ng A cap (ws.drop k) W (by rw[el];omega) (fun x hx=>hz x (List.mem_of_mem_drop hx)) (fun h0=>by
  rw[el]at h0;rw[if_neg (by omega)]at hA;refine⟨g,k,hA,Nat.lt_of_lt_of_le h.lt.2 hW.size,fun i u hu=>?_⟩;rw[List.getElem?_drop]at hu;exact(hW.cell (p:=⟨g,k+i,none⟩) h.lt.2).trans (h.cells (k+i) u hu))
 rw[el]at this;refine this.mono ?_;rintro e' w' ⟨q,d,rfl,hO,hb⟩;exact⟨_,rfl,q,d,rfl,hO,hb⟩
theorem Bq.base{B B':Nat}{v:Value}{l:List (List UInt8)}(h:Bq w B v l)(hB:B'<=B):Bq w B' v l:=by
 refine⟨h.1,?_⟩;rcases h.2 with hn|⟨g,cap,cur,hv,hbg,rest⟩
 ·exact .inl hn
 ·exact .inr ⟨g,cap,cur,hv,Nat.le_trans hB hbg,rest⟩
theorem Hw(L:List UInt8)(w:World)(hL:L.length<=500000):
 Calls prog 11 #[.string (bytesOf L)] w fun e w'=>ci (KY L) w w' e:=by
 have EN:Hid (∀args w,(callFunc 30 args).run prog w= .ok (.enter 30 args) w):=hid (enters_of func30 (by kernel_rfl) rfl);have n2:No (.cells #[.slice none 0 0,.slice none 0 0] 27):=⟨⟩;have Z1:=hid (Ai.new w n2);have b0:Below w w ((w.alloc n2).alloc n2):=(CY w _).alloc (by simp) _;have S0:Hid (Gm w ((w.alloc n2).alloc n2) [] [] (.slice none 0 0) (.slice none 0 0) [] []):=hid ⟨⟨CV.nil _ _,Ba.nil _ _,fun x hx=>absurd hx List.not_mem_nil,fun x hx=>absurd hx List.not_mem_nil,fun x hx=>absurd hx List.not_mem_nil,fun x hx=>absurd hx List.not_mem_nil⟩,rfl,fun i hi=>absurd hi (Nat.not_lt_zero _),rfl,fun i hi=>absurd hi (Nat.not_lt_zero _),fun d hd=>absurd hd List.not_mem_nil,fun i hi=>absurd hi (by simp),Z1.out.alloc _,by simpa using Ai.new (w.alloc n2) n2,b0⟩;have i500:(L.length:Int)<=500000:=by omega
 have i5:((bytesOf L).size:Int)<=500000:=by rw[Au];omega
 have SPEC:Hid (∀ts os,Dr [] [] L=some (ts,os)->KY L=if L≠[]/\(By (Dd ts os)).data.toList=L then some (ts,os)else none):=hid (fun ts os h=>by unfold KY;rw[h]);have SPECN:Hid (Dr [] [] L=none->KY L=none):=hid (fun h=>by unfold KY;rw[h]);generalize KY L=res at *;clear b0 Z1;go_enter func11,ntmps11
 go_wp2;go_loopw [5] (fun r wr=>∃(ts:List TD) (os:List OD) (R:List UInt8) (ta oa:Option Addr) (ca co:Nat) (lt:List Af) (lo:List Ae),r= .string (bytesOf R)/\Gm w wr ts os (.slice ta lt.length ca) (.slice oa lo.length co) lt lo/\Hid (Dr [] [] L=Dr ts os R)/\Hid (Vd L R ts os)) (fun r _=>KJ r)
 case atStart=>exact⟨[],[],L,none,none,0,0,[],[],rfl,S0,hid rfl,hid ⟨by simp,fun o ho=>absurd ho List.not_mem_nil⟩⟩
 case round=>
  clear S0;obtain⟨ts,os,R,ta,oa,ca,co,lt,lo,rfl,hS,HR,HB⟩:=hrel;have ST:=hid hS;clear hS;have bR:R.length<=500000:=by have:=HB.out.1;omega
  have lm1:lt.length<=1048576:=by rw[ST.out.lT];have:=HB.out.1;omega
  have lm2:lo.length<=1048576:=by rw[ST.out.lO];have:=HB.out.1;omega
  by_cases h0:R=[]
  ·subst h0;have e0:(bytesOf []).toList.isEmpty=true:=(by rw[RX];simp);have HK:=hid (ST.out.ker lm1 lm2);have hr:Dr [] [] L=some (ts,os):=(by rw[HR.out,QP]);have ER:=hid (SPEC.out ts os hr);have WF:=hid (HK.out.2.wfs HB.out.wfs);clear hr SPEC SPECN HR HB;by_cases hl:L=[]
   ·have e1:(bytesOf L).toList.isEmpty=true:=(by rw[RX];simp[hl]);have en:Hid (res=none):=hid (by rw[ER.out,if_neg (fun h=>h.1 hl)]);have rb:=ST.out.r;have wf:=rb.jC;obtain⟨y0,y1⟩:=rb.two;go_wp2;refine bodyPost_ret (Fi _ _ w false (.slice none 0 0) (.slice none 0 0) ((rb.jB (i:=0) _).jB (i:=1) _) rfl rfl) rfl ?_;rw[en.out];exact⟨rfl,(ST.out.be.setCell nr _).setCell nr _⟩
   ·have e1:(bytesOf L).toList.isEmpty=false:=(by rw[RX];simp[hl]);have kb:=ST.out.k;obtain⟨k0,k1⟩:=kb.two;have CT:=hid (Jn (Dm ta ca oa co lt lo) wr HK.out.1 WF);rw[Vp HK.out.2]at CT;unfold AJ.val Dm at CT;go_wp2_with fail
    refine CT.out.mono ?_;rintro e w1 ⟨rfl,hb1⟩;have S1:=hid (ST.out.below hb1);clear CT ST kb k0 k1 hb1;by_cases ht:(By (Dd ts os)).data.toList=L
    ·have e2:((By (Dd ts os)).toList==(bytesOf L).toList)=true:=(by rw[ByteArray.toList_eq,ByteArray.toList_eq,AM,ht];simp);have en:Hid (res=some (ts,os)):=hid (by rw[ER.out,if_pos ⟨hl,ht⟩]);generalize By (Dd ts os)=kt at *;have rb:=S1.out.r;have wf:=rb.jC;obtain⟨y0,y1⟩:=rb.two;obtain⟨k0,k1⟩:=S1.out.k.two;go_wp2;refine bodyPost_ret (Fi _ _ w true (.slice ta lt.length ca) (.slice oa lo.length co) ((rb.jB (i:=0) _).jB (i:=1) _) rfl rfl) rfl ?_;rw[en.out];exact⟨ta,oa,ca,co,lt,lo,rfl,((S1.out.st.setK rb _).setK (rb.jB (i:=0) _) _).at lm1 lm2 S1.out.dats,HK.out.2,(S1.out.be.setCell nr _).setCell nr _⟩
    ·have e2:((By (Dd ts os)).toList==(bytesOf L).toList)=false:=(by rw[ByteArray.toList_eq,ByteArray.toList_eq,AM];simpa using ht);have en:Hid (res=none):=hid (by rw[ER.out,if_neg (fun h=>ht h.2)]);generalize By (Dd ts os)=kt at *;have rb:=S1.out.r;have wf:=rb.jC;obtain⟨y0,y1⟩:=rb.two;go_wp2;refine bodyPost_ret (Fi _ _ w false (.slice none 0 0) (.slice none 0 0) ((rb.jB (i:=0) _).jB (i:=1) _) rfl rfl) rfl ?_;rw[en.out];exact⟨rfl,(S1.out.be.setCell nr _).setCell nr _⟩
  ·have e0:(bytesOf R).toList.isEmpty=false:=(by rw[RX];simp[h0]);have CT:=hid (ZG R 10 wr (by omega));have q1:=Cs 10 R;cases hf:(Ak 10 R).2.2 with
   |false=>
    have en:Hid (res=none):=hid (SPECN.out (by rw[HR.out,VI h0 hf]));rw[hf]at CT;go_wp2_with fail
    refine CT.out.mono ?_;rintro e w1 ⟨rfl,hb1⟩;have S1:=hid (ST.out.below hb1);clear CT ST hb1;have rb:=S1.out.r;have wf:=rb.jC;obtain⟨y0,y1⟩:=rb.two;go_wp2;refine bodyPost_ret (Fi _ _ w false (.slice none 0 0) (.slice none 0 0) ((rb.jB (i:=0) _).jB (i:=1) _) rfl rfl) rfl ?_;rw[en.out];exact⟨rfl,(S1.out.be.setCell nr _).setCell nr _⟩
   |true=>
    have q2:=I6 hf;have HL:Hid (Dr [] [] L=match Ka ts os (Ak 10 R).1 with|none=>none|some p=>Dr p.1 p.2 (Ak 10 R).2.1):=hid (by rw[HR.out,Wn h0 hf]);rw[hf]at CT;generalize (Ak 10 R).1=ln at *;generalize (Ak 10 R).2.1=R2 at *;clear HR hf;go_wp2_with fail
    refine CT.out.mono ?_;rintro e w1 ⟨rfl,hb1⟩;have S1:=hid (ST.out.below hb1);clear CT ST hb1;have CT:=hid (ZG ln 32 w1 (by omega));have q3:=Dc 32 ln;rw[aH]at HL;generalize (Ak 32 ln).1=wd at *;generalize (Ak 32 ln).2.1=tl at *;generalize (Ak 32 ln).2.2=fw at *;go_wp2_with fail
    refine CT.out.mono ?_;rintro e w2 ⟨rfl,hb2⟩;have S2:=hid (S1.out.below hb2);clear CT S1 hb2;go_wp2_with fail
    refine(SF tl w2 (by omega)).mono ?_;rintro e w3 ⟨g,c,rfl,hO,hb3⟩;have S3:=hid (S2.out.below hb3);have OW:=hid (hO.base (Nat.zero_le _));have hz:Hid (∀x∈Aj tl,x.length<=1048576):=hid (fun x hx=>by have:=Za tl x hx;omega);have nl:(Aj tl).length<=1048576:=(by have:=WY tl;omega);have LW:Hid (∀r,KM ts os wd tl=r->Dr [] [] L=match r with|none=>none|some p=>Dr p.1 p.2 R2):=hid (fun r h=>by rw[HL.out,h]);clear HL S2 hb3 hO;obtain⟨kk0,kk1⟩:=S3.out.k.two;have rng:IntKind.i64.wrap ((lo.length:Int)-1)=(lo.length:Int)-1:=(by rw[IntKind.wrap_i64];omega);by_cases w1e:wd=Gh
    ·have et:(bytesOf wd).toList=[116,104,114,101,97,100]:=(by rw[ByteArray.toList_eq,AM,w1e];rfl);have E1:=hid w1e;clear w1e;by_cases h4:4<=(Aj tl).length
     ·have i4:(4:Int)<=((Aj tl).length:Int):=(by omega);have EM:Hid (Qb (Aj tl)=⟨Bb ((Aj tl).getD 0 []),(Al ((Aj tl).getD 1 [])).1,(Al ((Aj tl).getD 1 [])).2.1,(Al ((Aj tl).getD 2 [])).1,(Al ((Aj tl).getD 2 [])).2.1,Bb ((Aj tl).getD 3 []),((Aj tl).drop 4).map Bb⟩):=hid rfl;have RF:=hid (LW.out _ (by unfold KM;rw[if_pos ⟨E1.out,h4⟩]));have c1:=OW.out.cells 1 ((Aj tl).getD 1 []) (by simp[show 1<(Aj tl).length from by omega]);have c2:=OW.out.cells 2 ((Aj tl).getD 2 []) (by simp[show 2<(Aj tl).length from by omega]);have cl:=OW.out.lt.2;have hc:=(FN OW).1;have l1:((Aj tl).getD 1 []).length<=1048576:=hz.out _ (by simp[show 1<(Aj tl).length from by omega]);have l2:((Aj tl).getD 2 []).length<=1048576:=hz.out _ (by simp[show 2<(Aj tl).length from by omega]);have P0:=hid (fun W hW=>Oh OW.out hz (k:=0) (by omega) c W hW);have P1:=hid (fun W hW=>Oh OW.out hz (k:=3) (by omega) (c-3) W hW);obtain⟨A,hA⟩:∃A:Option Addr,A=if c=4 then some ⟨g,0,none⟩else some ⟨g,4,none⟩:=⟨_,rfl⟩
      have P2:=hid (fun W hW=>WP OW.out hz nl (k:=4) (by omega) hA (c-4) W hW);have OL:Hid ((((Aj tl).drop 4).map Bb).length=(Aj tl).length-4):=hid (by simp);have i1:(1:Int)<((Aj tl).length:Int):=(by omega);have i2:(2:Int)<((Aj tl).length:Int):=(by omega);generalize Qb (Aj tl)=td at *;generalize Bb ((Aj tl).getD 0 [])=x0 at *;generalize Bb ((Aj tl).getD 3 [])=x1 at *;generalize ((Aj tl).drop 4).map Bb=ows at *;generalize (Aj tl).getD 1 []=s1 at *;generalize (Aj tl).getD 2 []=s2 at *;generalize (Aj tl).length=n at *;clear LW SPECN hz;go_wp2_with fail
      refine Ze g c n A x0 x1 ows _ _ _ _ _ _ _ _ _ _ _ _ _ _ _ _ _ _ _ _ _ _ _ _ _ _ _ _ _ _ _ _ _ _ _ _ _ _ _ _ _ _ _ _ _ _ _ _ _ _ _ _ _ _ _ _ _ _ _ _ _ _ _ _ _ _ _ _ _ _ _ _ _ _ _ _ _ _ _ _ _ _ _ _ _ _ _ _ _ _ _ _ _ _ _ _ _ _ _ _ _ _ _ _ _ _ _ _ _ _ _ _ _ _ _ _ _ _ _ _ _ _ _ _ _ _ _ _ _ _ _ _ _ _ _ _ _ _ _ _ _ _ _ _ _ _ _ _ _ _ _ _ _ _ _ _ _ _ _ _ _ _ _ _ _ _ _ _ _ _ _ _ _ _ _ _ _ _ _ _ _ _ _ _ w3 _ (fun _ _ _ _ _ h=>h) h4 hc hA EN P0 P1 P2 ?_;intro P q d _ _ _ _ _ _ _ _ _ _ _ _ _ _ W4 B4 hP A4 O4 ne4;have AA:=hid A4;have OO:=hid O4;have nb:Hid (¬(Value.slice q (n-4) d).ownBlock=some P):=hid (fun e=>ne4 (Option.some.inj e).symm);have d1:=(B4.cell (p:=⟨g,1,none⟩) cl).trans c1;have pl:=AA.out.lt;have HB4:=hid B4;clear P0 P1 P2 hA c1 A4 O4 OW B4 kk0 kk1;go_wp2_with fail
      refine(Wz s1 W4 l1).mono ?_;rintro e w5 ⟨a5,k5,rfl,o5,hb5⟩;have A5:=hid (AA.out.below hb5);have O5:=hid (OO.out.below hb5);have L5:=hid o5;have B5:=hid (Ac HB4 hb5);have pl5:=A5.out.lt;have wf5:=A5.out.jC;obtain⟨z0,z1,z2,z3,z4,z5,z6⟩:=A5.out.sevenF;have n5:Nv (.slice a5 (Al s1).2.1.length k5):=⟨⟩;have A6:=hid ((A5.out.jB (i:=1) (.int .i64 (Al s1).1)).jB (i:=2) n5);have B6:=hid ((B5.out.setCell (p:=⟨P,1,none⟩) hP (.int .i64 (Al s1).1)).setCell (p:=⟨P,2,none⟩) hP n5);have O6:=hid ((O5.out.other (i:=1) nb (.int .i64 (Al s1).1)).other (i:=2) nb n5);have L6:=hid (An.set (An.set L5 pl 1 (.int .i64 (Al s1).1)) pl 2 n5);have d2:=(B6.out.cell (p:=⟨g,2,none⟩) cl).trans c2;clear AA OO o5 d1 hb5 c2 B5 O5 L5 HB4;go_wp2_with fail
      clear z0 z1 z2 z3 z4 z5 z6 wf5 A5;generalize (w5.setCell ⟨P,1,none⟩ (.int .i64 (Al s1).1)).setCell ⟨P,2,none⟩ n5=W6 at *;have pl6:=A6.out.lt;refine(Wz s2 W6 l2).mono ?_;rintro e w7 ⟨a7,k7,rfl,o7,hb7⟩;have A7:=hid (A6.out.below hb7);have O7:=hid (O6.out.below hb7);have L7:=hid (L6.out.below hb7);have M7:=hid o7;have B7:=hid (Ac B6 hb7);have pl7:=A7.out.lt;have wf7:=A7.out.jC;obtain⟨z0,z1,z2,z3,z4,z5,z6⟩:=A7.out.sevenF;have n3:Nv (.slice a7 (Al s2).2.1.length k7):=⟨⟩;have A8:=hid ((A7.out.jB (i:=3) (.int .i64 (Al s2).1)).jB (i:=4) n3);have B8:=hid ((B7.out.setCell (p:=⟨P,3,none⟩) hP (.int .i64 (Al s2).1)).setCell (p:=⟨P,4,none⟩) hP n3);have O8:=hid ((O7.out.other (i:=3) nb (.int .i64 (Al s2).1)).other (i:=4) nb n3);have L8:=hid (An.set (An.set L7 pl 3 (.int .i64 (Al s2).1)) pl 4 n3);have M8:=hid (An.set (An.set M7 pl6 3 (.int .i64 (Al s2).1)) pl6 4 n3);have sw:w.heap.size<=w3.heap.size:=S3.out.be.size;have s4:w.heap.size<=W4.heap.size:=(by omega);have s6:w.heap.size<=W6.heap.size:=(by omega);clear L6 O6 B6 A6 o7 hb7 d2 B7 O7 L7 M7;go_upto_region 16 with fail
      clear z0 z1 z2 z3 z4 z5 z6 wf7 A7;generalize (w7.setCell ⟨P,3,none⟩ (.int .i64 (Al s2).1)).setCell ⟨P,4,none⟩ n3=W8 at *;have r1:=Fx s1;have r2:=Fx s2;have rO:n-4<=d/\d<=maxLen:=FN (by have:=O8.out;unfold Bo at this;rw[OL.out]at this;exact this);have XN:Hid (Af.new w W8 ⟨x0,(Al s1).1,⟨a5,(Al s1).2.1.length,k5,Az (Al s1).2.1,Ay (Al s1).2.1⟩,(Al s2).1,⟨a7,(Al s2).2.1.length,k7,Az (Al s2).2.1,Ay (Al s2).2.1⟩,⟨some ⟨q,0,none⟩,n-4,d,fun i=>ows.getD i 0⟩,x1⟩):=hid ⟨(As.newL L8 (by omega)).low s4,(As.newL M8 (by omega)).low s6,(by have:=Bo.int (w:=W8) (B:=w3.heap.size) (a:=some ⟨q,0,none⟩) (c:=d) (l:=ows) (by rw[OL.out];exact O8.out) (by rw[OL.out];omega);rw[OL.out]at this;exact this.low sw)⟩;have XS:Hid (td.v.same ⟨x0,(Al s1).1,⟨a5,(Al s1).2.1.length,k5,Az (Al s1).2.1,Ay (Al s1).2.1⟩,(Al s2).1,⟨a7,(Al s2).2.1.length,k7,Az (Al s2).2.1,Ay (Al s2).2.1⟩,⟨some ⟨q,0,none⟩,n-4,d,fun i=>ows.getD i 0⟩,x1⟩):=hid (by rw[EM.out];exact⟨rfl,rfl,⟨rfl,rfl,rfl⟩,rfl,⟨rfl,rfl,rfl⟩,⟨OL.out.symm,rfl⟩,rfl⟩);obtain⟨z0,z1,z2,z3,z4,z5,z6⟩:=A8.out.sevenF;have S8:=hid (S3.out.below B8);obtain⟨kk0,kk1⟩:=S8.out.k.two;have bb:=CY W8 (.cells #[.int .i64 x0,.int .i64 (Al s1).1,.slice a5 (Al s1).2.1.length k5,.int .i64 (Al s2).1,.slice a7 (Al s2).2.1.length k7,(.slice q (n-4) d),.int .i64 x1] 47);have S9:=hid (S8.out.below bb);have ONE:=hid (CV.one W8 ⟨x0,(Al s1).1,⟨a5,(Al s1).2.1.length,k5,Az (Al s1).2.1,Ay (Al s1).2.1⟩,(Al s2).1,⟨a7,(Al s2).2.1.length,k7,Az (Al s2).2.1,Ay (Al s2).2.1⟩,⟨some ⟨q,0,none⟩,n-4,d,fun i=>ows.getD i 0⟩,x1⟩);have X9:=hid (XN.out.keeps (CN.of_below bb).l);have sz9:=S9.out.be.size;clear bb A8 B8 O8 L8 M8 XN;go_wp2_with(at_builtin;refine Iu _ rfl _ _ rfl w _ lt rfl S9.out.st.t _ 1 ⟨x0,(Al s1).1,⟨a5,(Al s1).2.1.length,k5,Az (Al s1).2.1,Ay (Al s1).2.1⟩,(Al s2).1,⟨a7,(Al s2).2.1.length,k7,Az (Al s2).2.1,Ay (Al s2).2.1⟩,⟨some ⟨q,0,none⟩,n-4,d,fun i=>ows.getD i 0⟩,x1⟩ rfl ONE lm1 sz9 ?_;intro a9 c9 w9 o9 g9;have AD:=S9.out.addT (d:=td) o9 g9 X9 XS rO;have S10:=hid AD.2;obtain⟨zz0,zz1⟩:=AD.1.two;have zf:=AD.1.jC;clear AD o9 g9)
      exact⟨⟨ts++[td],os,R2,a9,oa,c9,co,lt++[⟨x0,(Al s1).1,⟨a5,(Al s1).2.1.length,k5,Az (Al s1).2.1,Ay (Al s1).2.1⟩,(Al s2).1,⟨a7,(Al s2).2.1.length,k7,Az (Al s2).2.1,Ay (Al s2).2.1⟩,⟨some ⟨q,0,none⟩,n-4,d,fun i=>ows.getD i 0⟩,x1⟩],lo,rfl,by rw[List.length_append];exact S10.out,hid RF.out,hid (HB.out.thr td q2)⟩,by show(bytesOf R2).size<(bytesOf R).size;rw[Au,Au];omega⟩
     ·have i4:¬(4:Int)<=((Aj tl).length:Int):=(by omega);have en:Hid (res=none):=hid (SPECN.out (LW none (by unfold KM;rw[if_neg (fun h=>h4 h.2),E1.out];simp[Gh,Fj,Hz,En])));clear LW SPEC SPECN;have rb:=S3.out.r;have wf:=rb.jC;obtain⟨y0,y1⟩:=rb.two;go_wp2;refine bodyPost_ret (Fi _ _ w false (.slice none 0 0) (.slice none 0 0) ((rb.jB (i:=0) _).jB (i:=1) _) rfl rfl) rfl ?_;rw[en.out];exact⟨rfl,(S3.out.be.setCell nr _).setCell nr _⟩
    ·have f1:¬(bytesOf wd).toList=[116,104,114,101,97,100]:=(by rw[ByteArray.toList_eq,AM];exact w1e);by_cases w2e:wd=Fj
     ·have et:(bytesOf wd).toList=[111,98,106,101,99,116]:=(by rw[ByteArray.toList_eq,AM,w2e];rfl);have E1:=hid w2e;clear w2e w1e f1;by_cases h4:5<=(Aj tl).length
      ·have i4:(5:Int)<=((Aj tl).length:Int):=(by omega);have EM:Hid (Qk (Aj tl)=⟨Bb ((Aj tl).getD 0 []),Bb ((Aj tl).getD 1 []),Bb ((Aj tl).getD 2 []),(Al ((Aj tl).getD 3 [])).1,(Al ((Aj tl).getD 3 [])).2.1,(Al ((Aj tl).getD 4 [])).1,(Al ((Aj tl).getD 4 [])).2.1,((Aj tl).drop 5).map Bb,[],[]⟩):=hid rfl;have RF:=hid (LW.out _ (by unfold KM;rw[if_neg (fun h=>absurd (E1.out.symm.trans h.1) (by decide)),if_pos ⟨E1.out,h4⟩]));have c1:=OW.out.cells 3 ((Aj tl).getD 3 []) (by simp[show 3<(Aj tl).length from by omega]);have c2:=OW.out.cells 4 ((Aj tl).getD 4 []) (by simp[show 4<(Aj tl).length from by omega]);have cl:=OW.out.lt.2;have hc:=(FN OW).1;have l1:((Aj tl).getD 3 []).length<=1048576:=hz.out _ (by simp[show 3<(Aj tl).length from by omega]);have l2:((Aj tl).getD 4 []).length<=1048576:=hz.out _ (by simp[show 4<(Aj tl).length from by omega]);have P0:=hid (fun W hW=>Oh OW.out hz (k:=0) (by omega) c W hW);have P1:=hid (fun W hW=>Oh OW.out hz (k:=1) (by omega) (c-1) W hW);have P2:=hid (fun W hW=>Oh OW.out hz (k:=2) (by omega) (c-2) W hW);obtain⟨A,hA⟩:∃A:Option Addr,A=if c=5 then some ⟨g,0,none⟩else some ⟨g,5,none⟩:=⟨_,rfl⟩
       have P3:=hid (fun W hW=>WP OW.out hz nl (k:=5) (by omega) hA (c-5) W hW);have OL:Hid ((((Aj tl).drop 5).map Bb).length=(Aj tl).length-5):=hid (by simp);have i1:(3:Int)<((Aj tl).length:Int):=(by omega);have i2:(4:Int)<((Aj tl).length:Int):=(by omega);have NI:=hid (Nr ((Aj tl).getD 0 []));have NU:=hid (Nr ((Aj tl).getD 2 []));generalize Qk (Aj tl)=td at *;generalize Bb ((Aj tl).getD 0 [])=x0 at *;generalize Bb ((Aj tl).getD 1 [])=x1 at *;generalize Bb ((Aj tl).getD 2 [])=x2 at *;generalize ((Aj tl).drop 5).map Bb=ows at *;generalize (Aj tl).getD 3 []=s1 at *;generalize (Aj tl).getD 4 []=s2 at *;generalize (Aj tl).length=n at *;clear LW SPECN hz;go_wp2_with fail
       refine YI g c n A x0 x1 x2 ows _ _ _ _ _ _ _ _ _ _ _ _ _ _ _ _ _ _ _ _ _ _ _ _ _ _ _ _ _ _ _ _ _ _ _ _ _ _ _ _ _ _ _ _ _ _ _ _ _ _ _ _ _ _ _ _ _ _ _ _ _ _ _ _ _ _ _ _ _ _ _ _ _ _ _ _ _ _ _ _ _ _ _ _ _ _ _ _ _ _ _ _ _ _ _ _ _ _ _ _ _ _ _ _ _ _ _ _ _ _ _ _ _ _ _ _ _ _ _ _ _ _ _ _ _ _ _ _ _ _ _ _ _ _ _ _ _ _ _ _ _ _ _ _ _ _ _ _ _ _ _ _ _ _ _ _ _ _ _ _ _ _ _ _ _ _ _ _ _ _ _ _ _ _ _ _ _ _ _ _ _ _ _ _ w3 _ (fun _ _ _ _ _ h=>h) h4 hc hA EN P0 P1 P2 P3 ?_;intro P q d _ _ _ _ _ _ _ _ _ _ _ _ _ _ _ _ _ _ _ W4 B4 hP A4 O4 ne4;have AA:=hid A4;have OO:=hid O4;have nb:Hid (¬(Value.slice q (n-5) d).ownBlock=some P):=hid (fun e=>ne4 (Option.some.inj e).symm);have d1:=(B4.cell (p:=⟨g,3,none⟩) cl).trans c1;have pl:=AA.out.lt;have HB4:=hid B4;clear P0 P1 P2 P3 hA c1 A4 O4 OW B4 kk0 kk1;go_wp2_with fail
       refine(Wz s1 W4 l1).mono ?_;rintro e w5 ⟨a5,k5,rfl,o5,hb5⟩;have A5:=hid (AA.out.below hb5);have O5:=hid (OO.out.below hb5);have L5:=hid o5;have B5:=hid (Ac HB4 hb5);have pl5:=A5.out.lt;have wf5:=A5.out.jC;obtain⟨z0,z1,z2,z3,z4,z5,z6,z7,z8,z9⟩:=A5.out.jE;have n6:Nv (.slice a5 (Al s1).2.1.length k5):=⟨⟩;have A6:=hid ((A5.out.jB (i:=3) (.int .i64 (Al s1).1)).jB (i:=4) n6);have B6:=hid ((B5.out.setCell (p:=⟨P,3,none⟩) hP (.int .i64 (Al s1).1)).setCell (p:=⟨P,4,none⟩) hP n6);have O6:=hid ((O5.out.other (i:=3) nb (.int .i64 (Al s1).1)).other (i:=4) nb n6);have L6:=hid (An.set (An.set L5 pl 3 (.int .i64 (Al s1).1)) pl 4 n6);have d2:=(B6.out.cell (p:=⟨g,4,none⟩) cl).trans c2;clear AA OO o5 d1 hb5 c2 B5 O5 L5 HB4;go_wp2_with fail
       clear z0 z1 z2 z3 z4 z5 z6 z7 z8 z9 wf5 A5;generalize (w5.setCell ⟨P,3,none⟩ (.int .i64 (Al s1).1)).setCell ⟨P,4,none⟩ n6=W6 at *;have pl6:=A6.out.lt;refine(Wz s2 W6 l2).mono ?_;rintro e w7 ⟨a7,k7,rfl,o7,hb7⟩;have A7:=hid (A6.out.below hb7);have O7:=hid (O6.out.below hb7);have L7:=hid (L6.out.below hb7);have M7:=hid o7;have B7:=hid (Ac B6 hb7);have pl7:=A7.out.lt;have wf7:=A7.out.jC;obtain⟨z0,z1,z2,z3,z4,z5,z6,z7,z8,z9⟩:=A7.out.jE;have n4:Nv (.slice a7 (Al s2).2.1.length k7):=⟨⟩;have A8:=hid ((A7.out.jB (i:=8) (.int .i64 (Al s2).1)).jB (i:=9) n4);have B8:=hid ((B7.out.setCell (p:=⟨P,8,none⟩) hP (.int .i64 (Al s2).1)).setCell (p:=⟨P,9,none⟩) hP n4);have O8:=hid ((O7.out.other (i:=8) nb (.int .i64 (Al s2).1)).other (i:=9) nb n4);have L8:=hid (An.set (An.set L7 pl 8 (.int .i64 (Al s2).1)) pl 9 n4);have M8:=hid (An.set (An.set M7 pl6 8 (.int .i64 (Al s2).1)) pl6 9 n4);have sw:w.heap.size<=w3.heap.size:=S3.out.be.size;have s4:w.heap.size<=W4.heap.size:=(by omega);have s6:w.heap.size<=W6.heap.size:=(by omega);clear L6 O6 B6 A6 o7 hb7 d2 B7 O7 L7 M7;go_upto_region 21 with fail
       clear z0 z1 z2 z3 z4 z5 z6 z7 z8 z9 wf7 A7;generalize (w7.setCell ⟨P,8,none⟩ (.int .i64 (Al s2).1)).setCell ⟨P,9,none⟩ n4=W8 at *;have r1:=Fx s1;have r2:=Fx s2;have rO:n-5<=d/\d<=maxLen:=FN (by have:=O8.out;unfold Bo at this;rw[OL.out]at this;exact this);have XN:Hid (Ae.new w W8 ⟨x0,x1,x2,(Al s1).1,⟨a5,(Al s1).2.1.length,k5,Az (Al s1).2.1,Ay (Al s1).2.1⟩,ByteArray.mk #[],⟨none,0,0,fun i=>bytesOf (([]:List (List UInt8)).getD i [])⟩,⟨some ⟨q,0,none⟩,n-5,d,fun i=>ows.getD i 0⟩,(Al s2).1,⟨a7,(Al s2).2.1.length,k7,Az (Al s2).2.1,Ay (Al s2).2.1⟩⟩):=hid ⟨(As.newL L8 (by omega)).low s4,cr _ _,(by have:=Bo.int (w:=W8) (B:=w3.heap.size) (a:=some ⟨q,0,none⟩) (c:=d) (l:=ows) (by rw[OL.out];exact O8.out) (by rw[OL.out];omega);rw[OL.out]at this;exact this.low sw),(As.newL M8 (by omega)).low s6⟩;have XS:Hid (td.v.same ⟨x0,x1,x2,(Al s1).1,⟨a5,(Al s1).2.1.length,k5,Az (Al s1).2.1,Ay (Al s1).2.1⟩,ByteArray.mk #[],⟨none,0,0,fun i=>bytesOf (([]:List (List UInt8)).getD i [])⟩,⟨some ⟨q,0,none⟩,n-5,d,fun i=>ows.getD i 0⟩,(Al s2).1,⟨a7,(Al s2).2.1.length,k7,Az (Al s2).2.1,Ay (Al s2).2.1⟩⟩):=hid (by rw[EM.out];exact⟨rfl,rfl,rfl,rfl,⟨rfl,rfl,rfl⟩,rfl,⟨rfl,rfl⟩,⟨OL.out.symm,rfl⟩,rfl,⟨rfl,rfl,rfl⟩⟩);obtain⟨z0,z1,z2,z3,z4,z5,z6,z7,z8,z9⟩:=A8.out.jE;have S8:=hid (S3.out.below B8);obtain⟨kk0,kk1⟩:=S8.out.k.two;have bb:=CY W8 (.cells #[.int .i64 x0,.int .i64 x1,.int .i64 x2,.int .i64 (Al s1).1,.slice a5 (Al s1).2.1.length k5,.string (ByteArray.mk #[]),.slice none 0 0,(.slice q (n-5) d),.int .i64 (Al s2).1,.slice a7 (Al s2).2.1.length k7] 51);have S9:=hid (S8.out.below bb);have ONE:=hid (Ba.one W8 ⟨x0,x1,x2,(Al s1).1,⟨a5,(Al s1).2.1.length,k5,Az (Al s1).2.1,Ay (Al s1).2.1⟩,ByteArray.mk #[],⟨none,0,0,fun i=>bytesOf (([]:List (List UInt8)).getD i [])⟩,⟨some ⟨q,0,none⟩,n-5,d,fun i=>ows.getD i 0⟩,(Al s2).1,⟨a7,(Al s2).2.1.length,k7,Az (Al s2).2.1,Ay (Al s2).2.1⟩⟩);have X9:=hid (XN.out.keeps (CN.of_below bb).l);have sz9:=S9.out.be.size;clear bb A8 B8 O8 L8 M8 XN;go_wp2_with(at_builtin;refine Ch _ rfl _ _ rfl w _ lo rfl S9.out.st.o _ 1 ⟨x0,x1,x2,(Al s1).1,⟨a5,(Al s1).2.1.length,k5,Az (Al s1).2.1,Ay (Al s1).2.1⟩,ByteArray.mk #[],⟨none,0,0,fun i=>bytesOf (([]:List (List UInt8)).getD i [])⟩,⟨some ⟨q,0,none⟩,n-5,d,fun i=>ows.getD i 0⟩,(Al s2).1,⟨a7,(Al s2).2.1.length,k7,Az (Al s2).2.1,Ay (Al s2).2.1⟩⟩ rfl ONE lm2 sz9 ?_;intro a9 c9 w9 o9 g9;have AD:=S9.out.addO (d:=td) o9 g9 X9 XS ⟨Nat.le_refl _,Nat.zero_le _⟩ (by rw[EM.out]) (by rw[EM.out]) rfl;have S10:=hid AD.2;obtain⟨zz0,zz1⟩:=AD.1.two;have zf:=AD.1.jC;clear AD o9 g9)
       exact⟨⟨ts,os++[td],R2,ta,a9,ca,c9,lt,lo++[⟨x0,x1,x2,(Al s1).1,⟨a5,(Al s1).2.1.length,k5,Az (Al s1).2.1,Ay (Al s1).2.1⟩,ByteArray.mk #[],⟨none,0,0,fun i=>bytesOf (([]:List (List UInt8)).getD i [])⟩,⟨some ⟨q,0,none⟩,n-5,d,fun i=>ows.getD i 0⟩,(Al s2).1,⟨a7,(Al s2).2.1.length,k7,Az (Al s2).2.1,Ay (Al s2).2.1⟩⟩],rfl,by rw[List.length_append];exact S10.out,hid RF.out,hid (HB.out.obj td (by rw[EM.out]) (by rw[EM.out];exact NI.out) (by rw[EM.out];exact NU.out) q2)⟩,by show(bytesOf R2).size<(bytesOf R).size;rw[Au,Au];omega⟩
      ·have i4:¬(5:Int)<=((Aj tl).length:Int):=(by omega);have en:Hid (res=none):=hid (SPECN.out (LW none (by unfold KM;rw[if_neg (fun h=>absurd (E1.out.symm.trans h.1) (by decide)),if_neg (fun h=>h4 h.2),E1.out];simp[Fj,Hz,En])));clear LW SPEC SPECN;have rb:=S3.out.r;have wf:=rb.jC;obtain⟨y0,y1⟩:=rb.two;go_wp2;refine bodyPost_ret (Fi _ _ w false (.slice none 0 0) (.slice none 0 0) ((rb.jB (i:=0) _).jB (i:=1) _) rfl rfl) rfl ?_;rw[en.out];exact⟨rfl,(S3.out.be.setCell nr _).setCell nr _⟩
     ·have f2:¬(bytesOf wd).toList=[111,98,106,101,99,116]:=(by rw[ByteArray.toList_eq,AM];exact w2e);by_cases ho:0<os.length
      ·have il:(0:Int)<=(lo.length:Int)-1:=(by have:=S3.out.lO;omega);by_cases w3e:wd=Hz
       ·have et:(bytesOf wd).toList=[100,97,116,97]:=(by rw[ByteArray.toList_eq,AM,w3e];rfl);have E1:=hid w3e;clear w3e w2e w1e f1 f2;have RF:=hid (LW.out _ (by unfold KM;rw[if_neg (fun h=>absurd (E1.out.symm.trans h.1) (by decide)),if_neg (fun h=>absurd (E1.out.symm.trans h.1) (by decide)),if_pos ⟨E1.out,ho⟩]));obtain⟨i,hi⟩:∃i,i+1=lo.length:=⟨lo.length-1,by rw[S3.out.lO];omega⟩;have hio:i+1=os.length:=(by rw[<-S3.out.lO];exact hi);obtain⟨gg,rfl⟩:∃gg,oa=some ⟨gg,0,none⟩:=by
         rcases S3.out.st.o.2 with⟨hv,hn⟩|⟨gg,cap,cur,hv,_⟩
         ·omega
         ·simp only[Value.slice.injEq]at hv;exact⟨gg,hv.1⟩
        obtain⟨cur,hcur⟩:∃cur,Ai w3 gg (.cells cur 51):=by
         rcases S3.out.st.o.2 with⟨hv,_⟩|⟨g',cap,cur,hv,_,hgg,_⟩
         ·cases hv
         ·cases hv;exact⟨cur,hgg⟩
        have gs:=hid hcur;have wf:=hcur.jC;have iI:((lo.length:Int)-1)=(i:Int):=(by omega);have hil:i<lo.length:=(by omega);clear LW SPECN OW hz hcur;obtain⟨lo',el,hS⟩:=S3.out.data hi (l:=tl) (by omega);have S4:=hid hS;have dc0:w3.cell? ⟨gg,i*10+5,none⟩=some (.string (Aa lo i).data):=by
         obtain⟨b,off,e,_,hcc⟩:=(S3.out.ker lm1 lm2).1.2.2.2 (show 0<lo.length from by omega);cases e;have:=(hcc i hil).1.c5;rw[Nat.zero_add]at this;exact this
        rw[iI]at rng;have i0:(0:Int)<=(lo.length:Int)-1:=(by omega);have n0:(0:Int)<=(i:Int):=(by omega);have n1:(i:Int)<(lo.length:Int):=(by omega);clear hS;go_wp2;exact⟨⟨ts,Ia os fun o=>{o with data:=tl},R2,ta,some ⟨gg,0,none⟩,ca,co,lt,lo',rfl,S4,hid RF.out,hid (HB.out.dat hio q2)⟩,by show(bytesOf R2).size<(bytesOf R).size;rw[Au,Au];omega⟩
       ·have f3:¬(bytesOf wd).toList=[100,97,116,97]:=(by rw[ByteArray.toList_eq,AM];exact w3e);by_cases w4e:wd=En
        ·have et:(bytesOf wd).toList=[105,116,101,109]:=(by rw[ByteArray.toList_eq,AM,w4e];rfl);have E1:=hid w4e;clear w4e w3e w2e w1e f1 f2 f3;have RF:=hid (LW.out _ (by unfold KM;rw[if_neg (fun h=>absurd (E1.out.symm.trans h.1) (by decide)),if_neg (fun h=>absurd (E1.out.symm.trans h.1) (by decide)),if_neg (fun h=>absurd (E1.out.symm.trans h.1) (by decide)),if_pos ⟨E1.out,ho⟩]));obtain⟨i,hi⟩:∃i,i+1=lo.length:=⟨lo.length-1,by rw[S3.out.lO];omega⟩;have hio:i+1=os.length:=(by rw[<-S3.out.lO];exact hi);obtain⟨gg,rfl⟩:∃gg,oa=some ⟨gg,0,none⟩:=by
          rcases S3.out.st.o.2 with⟨hv,hn⟩|⟨gg,cap,cur,hv,_⟩
          ·omega
          ·simp only[Value.slice.injEq]at hv;exact⟨gg,hv.1⟩
         obtain⟨cur,hcur⟩:∃cur,Ai w3 gg (.cells cur 51):=by
          rcases S3.out.st.o.2 with⟨hv,_⟩|⟨g',cap,cur,hv,_,hgg,_⟩
          ·cases hv
          ·cases hv;exact⟨cur,hgg⟩
         have gs:=hid hcur;have wf:=hcur.jC;have iI:((lo.length:Int)-1)=(i:Int):=(by omega);have hil:i<lo.length:=(by omega);clear LW SPECN OW hz hcur;obtain⟨M,m1,m0,m2,m3⟩:=S3.out.last i hi;have dc0:w3.cell? ⟨gg,i*10+6,none⟩=some (Aa lo i).jA.val:=by
          obtain⟨b,off,e,_,hcc⟩:=(S3.out.ker lm1 lm2).1.2.2.2 (show 0<lo.length from by omega);cases e;have:=(hcc i hil).1.c6;rw[Nat.zero_add]at this;exact this
         have ib:=HB.out.2 (os.getD i zO) (by simp[show i<os.length from by omega]);have M2:=hid m2;have M3:=hid m3;have IB:=hid ib;rw[iI]at rng il;have n0:(0:Int)<=(i:Int):=(by omega);clear m2 m3 ib;go_wp2_with fail
         refine Zu (w.heap.size+1) gg lo.length co i M (.slice ta lt.length ca) (Aa lo i).jA.val tl (os.getD i zO).jA cur _ _ _ _ _ _ _ _ _ _ _ _ _ _ _ _ _ _ _ _ _ _ _ _ _ _ _ _ _ _ _ _ _ _ _ _ _ _ _ _ _ _ _ _ _ _ _ _ _ _ _ _ _ _ _ _ _ _ _ _ _ _ _ _ _ _ _ _ _ _ _ _ _ _ _ _ _ _ _ _ _ _ _ _ _ _ _ _ _ _ _ _ _ _ _ _ _ _ _ _ _ _ _ _ _ _ _ _ _ _ _ _ _ _ _ _ _ _ _ _ _ _ _ _ _ _ _ _ _ _ _ _ _ _ _ _ _ _ _ _ _ _ _ _ _ _ _ _ _ _ _ _ _ _ _ _ _ _ _ _ _ _ _ _ _ _ _ _ _ _ _ _ _ _ _ _ _ _ _ _ _ _ w3 _ (fun _ _ _ _ _ h=>h) hil S3.out.k gs dc0 M3 m0 (by have:=IB.out.1;omega) ?_;intro q5 c5 _ _ _ _ _ _ _ _ _ _ _ _ _ _ W1 W2 B1 g2 O2;have S4:=hid (S3.out.below B1);obtain⟨lo',el,hS⟩:=S4.out.item hi (l:=tl) (by omega) (fun y hy=>by have:=IB.out.2.1 y hy;omega) (by have:=IB.out.1;omega) m1 (Nat.le_trans m0 B1.size) M2 (M3.out.below B1) O2 g2;have S5:=hid hS;clear hS O2 g2 B1;go_wp2;exact⟨⟨ts,Ia os fun o=>{o with jA:=o.jA++[tl]},R2,ta,some ⟨gg,0,none⟩,ca,co,lt,lo',rfl,S5,hid RF.out,hid (HB.out.itm hio q2 (by have:=HB.out.1;omega))⟩,by show(bytesOf R2).size<(bytesOf R).size;rw[Au,Au];omega⟩
        ·have f4:¬(bytesOf wd).toList=[105,116,101,109]:=(by rw[ByteArray.toList_eq,AM];exact w4e);have en:Hid (res=none):=hid (SPECN.out (LW none (by unfold KM;rw[if_neg (fun h=>w1e h.1),if_neg (fun h=>w2e h.1),if_neg (fun h=>w3e h.1),if_neg (fun h=>w4e h.1)])));clear LW SPEC SPECN;have rb:=S3.out.r;have wf:=rb.jC;obtain⟨y0,y1⟩:=rb.two;go_wp2;refine bodyPost_ret (Fi _ _ w false (.slice none 0 0) (.slice none 0 0) ((rb.jB (i:=0) _).jB (i:=1) _) rfl rfl) rfl ?_;rw[en.out];exact⟨rfl,(S3.out.be.setCell nr _).setCell nr _⟩
      ·have il:¬(0:Int)<=(lo.length:Int)-1:=(by have:=S3.out.lO;omega);have en:Hid (res=none):=hid (SPECN.out (LW none (by unfold KM;rw[if_neg (fun h=>w1e h.1),if_neg (fun h=>w2e h.1),if_neg (fun h=>ho h.2),if_neg (fun h=>ho h.2)])));clear LW SPEC SPECN w1e w2e;by_cases g3:(bytesOf wd).toList=[100,97,116,97]
       ·clear f1 f2;have rb:=S3.out.r;have wf:=rb.jC;obtain⟨y0,y1⟩:=rb.two;go_wp2;refine bodyPost_ret (Fi _ _ w false (.slice none 0 0) (.slice none 0 0) ((rb.jB (i:=0) _).jB (i:=1) _) rfl rfl) rfl ?_;rw[en.out];exact⟨rfl,(S3.out.be.setCell nr _).setCell nr _⟩
       ·by_cases g4:(bytesOf wd).toList=[105,116,101,109]
        ·clear f1 f2 g3;have rb:=S3.out.r;have wf:=rb.jC;obtain⟨y0,y1⟩:=rb.two;go_wp2;refine bodyPost_ret (Fi _ _ w false (.slice none 0 0) (.slice none 0 0) ((rb.jB (i:=0) _).jB (i:=1) _) rfl rfl) rfl ?_;rw[en.out];exact⟨rfl,(S3.out.be.setCell nr _).setCell nr _⟩
        ·skip;have rb:=S3.out.r;have wf:=rb.jC;obtain⟨y0,y1⟩:=rb.two;go_wp2;refine bodyPost_ret (Fi _ _ w false (.slice none 0 0) (.slice none 0 0) ((rb.jB (i:=0) _).jB (i:=1) _) rfl rfl) rfl ?_;rw[en.out];exact⟨rfl,(S3.out.be.setCell nr _).setCell nr _⟩
end Go.Proofs.YtblapfnglojgjaaGreatDoor
