import Derived.Test.YtblapfnglojgjaaGreatDoorZ29k
set_option maxRecDepth 100000
set_option maxHeartbeats 4000000
namespace Go.Proofs.YtblapfnglojgjaaGreatDoor
open Go.RowKit Go.Deep Go.Maps Go.Proofs.Tryz
variable {S R:List UInt8}{base:Int}{mo:Bool}
def Gf(S:List UInt8)(base:Int)(G:Option (List (Int×Int)))(R:List UInt8)(mo:Bool)(l:List (Int×Int)):Prop:=
 (l.length<=12->gather (12-l.length) R mo l=G)/\(l.length=13->G=none)/\S=GR base l++(if mo=true then 44::R else[])
theorem Gf.next{G:Option (List (Int×Int))}{l:List (Int×Int)}(h:Gf S base G R true l)(hl:l.length<=12)(hc:DO (Ak 44 R).1=true):
 Gf S base G (Ak 44 R).2.1 (Ak 44 R).2.2 (l++[LL (Ak 44 R).1]):=by
 obtain⟨h1,_,h3⟩:=h;have h1:=h1 hl;refine⟨fun h=>?_,fun h=>?_,?_⟩
 ·rw[List.length_append]at h ⊢;have h':l.length+1<=12:=h;obtain⟨q,hq⟩:∃q,12-l.length=q+1:=⟨12-l.length-1,by omega⟩;rw[hq,If q R l hc]at h1;have e:12-(l.length+[LL (Ak 44 R).1].length)=q:=by simp only[List.length_singleton];omega
  rw[e];exact h1
 ·rw[List.length_append]at h;have h':l.length=12:=by simp at h;omega
  rw[h',Nat.sub_self]at h1;exact h1.symm
 ·rw[JI,Vg hc,h3,if_pos rfl,List.append_assoc,List.cons_append,<-Hh]
theorem Gf.bad{G:Option (List (Int×Int))}{l:List (Int×Int)}(h:Gf S base G R true l)(hl:l.length<=12)(hc:DO (Ak 44 R).1=false):G=none:=by
 rw[<-h.1 hl,Ou _ _ _ hc]
theorem Gf.start(ho:okD (Ak 44 S).1=true):Gf S (CF (Ak 44 S).1) (gather 12 (Ak 44 S).2.1 (Ak 44 S).2.2 []) (Ak 44 S).2.1 (Ak 44 S).2.2 []:=by
 refine⟨fun _=>rfl,fun h=>by simp at h,?_⟩;have:GR (CF (Ak 44 S).1) []=(Ak 44 S).1:=by
  unfold CF;rw[if_pos ho];simp only[GR,List.map_nil,List.flatten_nil,List.append_nil,Int.toNat_natCast];exact RV ho
 rw[this];exact Hh 44 S
theorem ct(base:Int)(l:List (Int×Int)):GR base l≠[]:=by
 unfold GR;intro h;have h1:=(List.append_eq_nil_iff.1 h).1;by_cases hs:base.toNat<10
 ·rw[Cr hs]at h1;simp at h1
 ·rw[Er hs]at h1;simp at h1
theorem Gf.yes{G:Option (List (Int×Int))}{l:List (Int×Int)}(h:Gf S base G R mo l)(hx:mo=false∨l.length=13)(hok:AO base l.length (Az l) (Ay l)=true):U4 base G=(base,l,true)/\Fo base l.length (Az l) (Ay l)=S:=by
 obtain⟨h1,h2,h3⟩:=h;have hl:=(Gy hok).2.1;have hm:mo=false:=by
  rcases hx with e|e
  ·exact e
  ·omega
 subst hm;have hg:=h1 hl;rw[EF]at hg;refine⟨by rw[<-hg];simp[U4,hok],?_⟩;unfold Fo;rw[if_pos hok,M6,h3];simp
theorem Gf.no{G:Option (List (Int×Int))}{l:List (Int×Int)}(h:Gf S base G R mo l)(hx:mo=false∨l.length=13)(hl:l.length<=13)(hok:AO base l.length (Az l) (Ay l)=false):U4 base G=(0,[],false)/\Fo base l.length (Az l) (Ay l)≠S:=by
 obtain⟨h1,h2,h3⟩:=h;constructor
 ·by_cases h13:l.length=13
  ·rw[h2 h13];rfl
  ·have hm:mo=false:=by
    rcases hx with e|e
    ·exact e
    ·omega
   subst hm;have hg:=h1 (by omega);rw[EF]at hg;rw[<-hg];simp[U4,hok]
 ·unfold Fo;rw[if_neg (by rw[hok];simp),h3];intro e;exact ct base l (List.append_eq_nil_iff.1 e.symm).1
theorem SG(s:ByteArray)(w:World)(hn:s.size<=1048576):
 Calls prog 31 #[.string s] w (Gg (Al s.data.toList) w):=by
 have hsl:s.data.toList.length<=1048576:=by simpa using hn
 have n3:No (.cells #[.int .i64 0,.slice none 0 0] 44):=⟨⟩;have L0:=(Below.refl _ w).alloc nr n3;have Z0:=Ai.new w n3;have hl1:=Cs 44 s.data.toList;have hl2:=Dc 44 s.data.toList;obtain⟨G,hG⟩:∃G,(if okD (Ak 44 s.data.toList).1=true then gather 12 (Ak 44 s.data.toList).2.1 (Ak 44 s.data.toList).2.2 []else none)=G:=⟨_,rfl⟩;have HR:Hid (Al s.data.toList=U4 (CF (Ak 44 s.data.toList).1) G):=by
  show _=_;unfold Al;rw[<-hG];split<;>rfl
 have HK:Hid (okD (Ak 44 s.data.toList).1=true->Gf s.data.toList (CF (Ak 44 s.data.toList).1) G (Ak 44 s.data.toList).2.1 (Ak 44 s.data.toList).2.2 []):=fun ho=>by
  rw[if_pos ho]at hG;rw[<-hG];exact Gf.start ho
 have HN:Hid (okD (Ak 44 s.data.toList).1=false->G=none):=fun ho=>by
  rw[<-hG,ho];rfl
 clear hG;generalize Al s.data.toList=res at *;go_enter func31,ntmps31
 go_wp2_with fail
 refine(Jj s 44 _ (by unfold maxLen;omega)).mono ?_;rintro e w1 ⟨rfl,hb1⟩;have L1:Below w w w1:=L0.trans (hb1.mono L0.size);have Z1:=Z0.below hb1;unfold cutV;generalize (Ak 44 s.data.toList).1=one at *;generalize (Ak 44 s.data.toList).2.1=rest0 at *;generalize (Ak 44 s.data.toList).2.2=more0 at *;clear L0 Z0 hb1;go_wp2_with fail
 refine(Kh _ _ (by rw[CZ];unfold maxLen;omega)).mono ?_;rintro e w2 ⟨rfl,rfl⟩;unfold Di;simp only at *;generalize CF one=base at *;generalize okD one=ok0 at *;have n2:No (.cells #[.int .i64 base,.slice none 0 0] 44):=⟨⟩;have P3:=Ai.new w2 n2;have L3:Below w w (w2.alloc n2):=L1.alloc L1.size _;have Z3:=Z1.alloc n2;have sP:w.heap.size<w2.heap.size:=Z1.lt;go_wp2;go_loopw [5,6,8] (fun r m o wr=>∃(R:List UInt8) (mo:Bool) (l:List (Int×Int)) (v:Value) (ok:Bool),r= .string ⟨R.toArray⟩/\m= .bool mo/\o= .bool ok/\Hid (ok=true->Gf s.data.toList base G R mo l)/\Hid (ok=false->G=none)/\l.length<=13/\R.length<=1048576/\Ai wr w2 (.cells #[.int .i64 base,v] 44)/\An wr (w2.heap.size+1) v l/\Ai wr w (.cells #[.int .i64 0,.slice none 0 0] 44)/\Below w w wr) (fun r m _ _=>KJ r+MW m)
 case atStart=>exact⟨rest0,more0,[],_,ok0,rfl,rfl,rfl,HK,HN,by simp,by omega,P3,An.nil _ _,Z3,L3⟩
 case round=>
  obtain⟨R,mo,l,v,ok,rfl,rfl,rfl,HK',HN',hl,hR,P,O,Z,Lr⟩:=hrel;clear HK HN P3 L3 Z3 L1 Z1;obtain⟨p1,p2⟩:=P.two;obtain⟨va,vc,rfl⟩:=As.shape O;cases ok with
  |false=>
   cases mo with
   |false=>
    obtain⟨z1,z2⟩:=Z.two;have f1:=Z.jQ 0;have f2:=Z.jQ 1;have er:Hid (res=(0,[],false)):=(by rw[HR.out,HN'.out rfl];rfl:res=(0,[],false));go_wp2;exact bodyPost_ret (v:= .tuple #[.agg #[.int .i64 0,.slice none 0 0],.bool false]) (by simp[results,Tryz.results31,go_sem,z1,z2]) rfl (Gg.no er ((Lr.setCell nr _).setCell nr _))
   |true=>
    obtain⟨z1,z2⟩:=Z.two;have f1:=Z.jQ 0;have f2:=Z.jQ 1;have er:Hid (res=(0,[],false)):=(by rw[HR.out,HN'.out rfl];rfl:res=(0,[],false));go_wp2;exact bodyPost_ret (v:= .tuple #[.agg #[.int .i64 0,.slice none 0 0],.bool false]) (by simp[results,Tryz.results31,go_sem,z1,z2]) rfl (Gg.no er ((Lr.setCell nr _).setCell nr _))
  |true=>
   cases mo with
   |false=>
    have hk:=HK'.out rfl;go_wp2_with fail
    refine(It _ _ _ _ (Az l) (Ay l) _ (by unfold maxLen;omega) (As.cats O)).mono ?_;rintro e w4 ⟨rfl,hb4⟩;have Z4:=Z.below hb4;have P4:=P.below hb4;have O4:=O.below hb4;have L4:Below w w w4:=Lr.trans (hb4.mono Lr.size);clear p1 p2 P O Z Lr hb4;obtain⟨p1,p2⟩:=P4.two;obtain⟨z1,z2⟩:=Z4.two;have f1:=Z4.jQ 0;have f2:=Z4.jQ 1;cases hok:AO base l.length (Az l) (Ay l)with
    |false=>
     obtain⟨e1,e2⟩:=hk.no (.inl rfl) hl hok;have er:Hid (res=(0,[],false)):=(by rw[HR.out,e1]:res=(0,[],false));have hne:(Fo base l.length (Az l) (Ay l)==s.toList)=false:=by
      rw[ByteArray.toList_eq];simpa using e2
     clear hk e1 e2;generalize Fo base l.length (Az l) (Ay l)=tx at *;go_wp2;exact bodyPost_ret (v:= .tuple #[.agg #[.int .i64 0,.slice none 0 0],.bool false]) (by simp[results,Tryz.results31,go_sem,z1,z2]) rfl (Gg.no er ((L4.setCell nr _).setCell nr _))
    |true=>
     obtain⟨e1,e2⟩:=hk.yes (.inl rfl) hok;have er:Hid (res=(base,l,true)):=(by rw[HR.out,e1]:res=(base,l,true));have hne:(Fo base l.length (Az l) (Ay l)==s.toList)=true:=by
      rw[ByteArray.toList_eq];simpa using e2
     clear hk e1 e2;generalize Fo base l.length (Az l) (Ay l)=tx at *;go_wp2;exact bodyPost_ret (v:= .tuple #[.agg #[.int .i64 base,.slice va l.length vc],.bool true]) (by simp[results,Tryz.results31,go_sem,z1,z2]) rfl (Gg.yes er (((O4.set (by omega) _ _).set (by omega) _ _).low (by omega)) ((L4.setCell nr _).setCell nr _))
   |true=>
    by_cases h12:l.length<=12;rotate_left
    ·have h13:Hid (l.length=13):=(by omega:l.length=13);have h13':¬(l.length:Int)<=12:=(by omega);have hk:=HK'.out rfl;go_wp2_with fail
     refine(It _ _ _ _ (Az l) (Ay l) _ (by unfold maxLen;omega) (As.cats O)).mono ?_;rintro e w4 ⟨rfl,hb4⟩;have Z4:=Z.below hb4;have P4:=P.below hb4;have O4:=O.below hb4;have L4:Below w w w4:=Lr.trans (hb4.mono Lr.size);clear p1 p2 P O Z Lr hb4;obtain⟨p1,p2⟩:=P4.two;obtain⟨z1,z2⟩:=Z4.two;have f1:=Z4.jQ 0;have f2:=Z4.jQ 1;cases hok:AO base l.length (Az l) (Ay l)with
     |false=>
      obtain⟨e1,e2⟩:=hk.no (.inr h13) hl hok;have er:Hid (res=(0,[],false)):=(by rw[HR.out,e1]:res=(0,[],false));have hne:(Fo base l.length (Az l) (Ay l)==s.toList)=false:=by
       rw[ByteArray.toList_eq];simpa using e2
      clear hk e1 e2;generalize Fo base l.length (Az l) (Ay l)=tx at *;go_wp2;exact bodyPost_ret (v:= .tuple #[.agg #[.int .i64 0,.slice none 0 0],.bool false]) (by simp[results,Tryz.results31,go_sem,z1,z2]) rfl (Gg.no er ((L4.setCell nr _).setCell nr _))
     |true=>
      obtain⟨e1,e2⟩:=hk.yes (.inr h13) hok;have er:Hid (res=(base,l,true)):=(by rw[HR.out,e1]:res=(base,l,true));have hne:(Fo base l.length (Az l) (Ay l)==s.toList)=true:=by
       rw[ByteArray.toList_eq];simpa using e2
      clear hk e1 e2;generalize Fo base l.length (Az l) (Ay l)=tx at *;go_wp2;exact bodyPost_ret (v:= .tuple #[.agg #[.int .i64 base,.slice va l.length vc],.bool true]) (by simp[results,Tryz.results31,go_sem,z1,z2]) rfl (Gg.yes er (((O4.set (by omega) _ _).set (by omega) _ _).low (by omega)) ((L4.setCell nr _).setCell nr _))
    have hk:=HK'.out rfl;have HKN:Hid (∀piece R' mo',piece=(Ak 44 R).1->R'=(Ak 44 R).2.1->mo'=(Ak 44 R).2.2->DO piece=true->Gf s.data.toList base G R' mo' (l++[LL piece])):=fun p r m e1 e2 e3 h=>by
     subst e1;subst e2;subst e3;exact hk.next h12 h
    have HKB:Hid (∀piece,piece=(Ak 44 R).1->DO piece=false->G=none):=fun p e1 h=>by
     subst e1;exact hk.bad h12 h
    clear hk HK' HN';have h12':(l.length:Int)<=12:=(by omega);go_wp2_with fail
    refine(Jj _ 44 _ (by rw[CZ];unfold maxLen;omega)).mono ?_;rintro e w4 ⟨rfl,hb4⟩;have Z4:=Z.below hb4;have P4:=P.below hb4;have O4:=O.below hb4;have L4:Below w w w4:=Lr.trans (hb4.mono Lr.size);have hms:=M5 R;have hc1:=Cs 44 R;have hc2:=Dc 44 R;unfold cutV;simp only at *;obtain⟨piece,hpc⟩:∃p,p=(Ak 44 R).1:=⟨_,rfl⟩;obtain⟨R',hR'⟩:∃p,p=(Ak 44 R).2.1:=⟨_,rfl⟩;obtain⟨mo',hmo'⟩:∃p,p=(Ak 44 R).2.2:=⟨_,rfl⟩;have HKN':Hid (DO piece=true->Gf s.data.toList base G R' mo' (l++[LL piece])):=HKN.out _ _ _ hpc hR' hmo';have HKB':Hid (DO piece=false->G=none):=HKB.out _ hpc;rw[<-hpc]at hc1;rw[<-hR']at hc2;rw[<-hR',<-hmo']at hms;rw[<-hpc,<-hR',<-hmo'];clear HKN HKB hpc hR' hmo' p1 p2 P O Z Lr hb4;have hq1:=Cs 58 piece;have hq2:=Dc 58 piece;go_wp2_with fail
    refine(Jj _ 58 _ (by rw[CZ];unfold maxLen;omega)).mono ?_;rintro e w5 ⟨rfl,hb5⟩;have Z5:=Z4.below hb5;have P5:=P4.below hb5;have O5:=O4.below hb5;have L5:Below w w w5:=L4.trans (hb5.mono L4.size);clear Z4 P4 O4 L4 hb5;unfold cutV;simp only at *;have hcat:DO piece=(okD (Ak 58 piece).1&&okD (Ak 58 piece).2.1):=rfl;have hcl:LL piece=(CF (Ak 58 piece).1,CF (Ak 58 piece).2.1):=rfl;rw[hcat,hcl]at HKN';rw[hcat]at HKB';clear hcat hcl;generalize (Ak 58 piece).1=A at *;generalize (Ak 58 piece).2.1=B at *;generalize (Ak 58 piece).2.2=dO at *;go_wp2_with fail
    refine(Kh _ _ (by rw[CZ];unfold maxLen;omega)).mono ?_;rintro e w6 ⟨rfl,rfl⟩;unfold Di;simp only at *;go_wp2_with fail
    refine(Kh _ _ (by rw[CZ];unfold maxLen;omega)).mono ?_;rintro e w7 ⟨rfl,rfl⟩;unfold Di;simp only at *;generalize CF A=x at *;generalize CF B=y at *;generalize okD A=oa at *;generalize okD B=ob at *;have s5:w2.heap.size+1<=w7.heap.size:=P5.lt;have HNE:Hid (some w2.heap.size≠(Value.slice va l.length vc).ownBlock):=fun e=>by have:=(World.ownsRow.lt O5 _ e.symm).1;omega
    have HO:Hid (An w7 (w2.heap.size+1) (.slice va l.length vc) l):=O5;have hsz:w.heap.size+1<=w7.heap.size:=Z5.lt;obtain⟨p1,p2⟩:=P5.two;have pf0:=P5.jQ 1;have n1:No (.cells #[.int .i64 x,.int .i64 y] 96):=⟨⟩;have OC:Hid (Bi (w7.alloc n1) (some ⟨w7,0,none⟩) 1 (fun _=>x) (fun _=>y)):=Kp w7 x y;cases oa with
    |true=>
     cases ob with
     |true=>
      go_wp2_with(at_builtin;refine Cy _ rfl _ _ rfl (w2.heap.size+1) _ _ _ _ rfl (As.alloc HO _) _ 1 1 (fun _=>x) (fun _=>y) rfl OC (by omega) (by simp;omega) ?_;intro a' c' w' hown' hgrow' hat';have hZ':=(P5.alloc n1).grown hgrow' (HNE);obtain⟨q1,q2⟩:=hZ'.two;have pf:=hZ'.jQ 1)
      have hgN:Below w w w':=(L5.alloc (by omega) _).grown hgrow' (by simp;omega) (fun j e=>by have:=(World.ownsRow.lt HO j e).1;omega);have Z7:=(Z5.alloc n1).grown hgrow' (fun e=>by have:=(World.ownsRow.lt HO _ e.symm).1;omega);go_roundw;case rel=>
       refine⟨R',mo',l++[(x,y)],_,true,rfl,rfl,rfl,(fun _=>HKN' rfl),(fun h=>Bool.noConfusion h),by rw[List.length_append];simp;omega,by omega,hZ'.set1 _,(An.snoc hown').set (by omega) _ _,Z7.grown (Ck (Bs w' w2) 1 _) (by simp;omega),hgN.setCell (by dsimp only;omega) _⟩
      case measure=>
       have e1:KJ (.string ⟨R'.toArray⟩)=R'.length:=CZ R';have e2:KJ (.string ⟨R.toArray⟩)=R.length:=CZ R;have e3:MW (.bool mo')=if mo'=true then 1 else 0:=by cases mo'<;>rfl
       rw[e1,e2,e3];exact hms
     |false=>
      go_wp2_with(at_builtin;refine Cy _ rfl _ _ rfl (w2.heap.size+1) _ _ _ _ rfl (As.alloc HO _) _ 1 1 (fun _=>x) (fun _=>y) rfl OC (by omega) (by simp;omega) ?_;intro a' c' w' hown' hgrow' hat';have hZ':=(P5.alloc n1).grown hgrow' (HNE);obtain⟨q1,q2⟩:=hZ'.two;have pf:=hZ'.jQ 1)
      have hgN:Below w w w':=(L5.alloc (by omega) _).grown hgrow' (by simp;omega) (fun j e=>by have:=(World.ownsRow.lt HO j e).1;omega);have Z7:=(Z5.alloc n1).grown hgrow' (fun e=>by have:=(World.ownsRow.lt HO _ e.symm).1;omega);go_roundw;case rel=>
       refine⟨R',mo',l++[(x,y)],_,false,rfl,rfl,rfl,(fun h=>Bool.noConfusion h),(fun _=>HKB' rfl),by rw[List.length_append];simp;omega,by omega,hZ'.set1 _,(An.snoc hown').set (by omega) _ _,Z7.grown (Ck (Bs w' w2) 1 _) (by simp;omega),hgN.setCell (by dsimp only;omega) _⟩
      case measure=>
       have e1:KJ (.string ⟨R'.toArray⟩)=R'.length:=CZ R';have e2:KJ (.string ⟨R.toArray⟩)=R.length:=CZ R;have e3:MW (.bool mo')=if mo'=true then 1 else 0:=by cases mo'<;>rfl
       rw[e1,e2,e3];exact hms
    |false=>
     go_wp2_with(at_builtin;refine Cy _ rfl _ _ rfl (w2.heap.size+1) _ _ _ _ rfl (As.alloc HO _) _ 1 1 (fun _=>x) (fun _=>y) rfl OC (by omega) (by simp;omega) ?_;intro a' c' w' hown' hgrow' hat';have hZ':=(P5.alloc n1).grown hgrow' (HNE);obtain⟨q1,q2⟩:=hZ'.two;have pf:=hZ'.jQ 1)
     have hgN:Below w w w':=(L5.alloc (by omega) _).grown hgrow' (by simp;omega) (fun j e=>by have:=(World.ownsRow.lt HO j e).1;omega);have Z7:=(Z5.alloc n1).grown hgrow' (fun e=>by have:=(World.ownsRow.lt HO _ e.symm).1;omega);go_roundw;case rel=>
      refine⟨R',mo',l++[(x,y)],_,false,rfl,rfl,rfl,(fun h=>Bool.noConfusion h),(fun _=>HKB' rfl),by rw[List.length_append];simp;omega,by omega,hZ'.set1 _,(An.snoc hown').set (by omega) _ _,Z7.grown (Ck (Bs w' w2) 1 _) (by simp;omega),hgN.setCell (by dsimp only;omega) _⟩
     case measure=>
      have e1:KJ (.string ⟨R'.toArray⟩)=R'.length:=CZ R';have e2:KJ (.string ⟨R.toArray⟩)=R.length:=CZ R;have e3:MW (.bool mo')=if mo'=true then 1 else 0:=by cases mo'<;>rfl
      rw[e1,e2,e3];exact hms
variable {n:Nat}{c:UInt8}{D S:List UInt8}{b:Int}
theorem MN(h:n<10):Bg (UInt8.ofNat (48+n))=true:=by
 have e:(UInt8.ofNat (48+n)).toNat=48+n:=UInt8.toNat_ofNat_of_lt' (by simp[UInt8.size];omega);simp only[Bg,e];simp;omega
theorem Nb(n:Nat):(Bt n).all Bg=true:=by
 induction n using Nat.strongRecOn with
 |_ n ih=>
  by_cases h:n<10
  ·rw[Cr h,List.all_cons,MN h,List.all_nil];rfl
  ·rw[Er h,List.all_append,ih (n/10) (by omega)];rw[List.all_cons,MN (show n%10<10 by omega),List.all_nil];rfl
theorem MQ(h:n<10):(UInt8.ofNat (48+n)).toNat-48=n:=by
 have e:(UInt8.ofNat (48+n)).toNat=48+n:=UInt8.toNat_ofNat_of_lt' (by simp[UInt8.size];omega);omega
theorem Sk(n:Nat):Do (Bt n)=n:=by
 induction n using Nat.strongRecOn with
 |_ n ih=>
  by_cases h:n<10
  ·rw[Cr h];have:=MQ h;simp only[Do,List.foldl_cons,List.foldl_nil];omega
  ·rw[Er h,Jf,ih (n/10) (by omega),MQ (by omega)];omega
theorem TQ(k:Nat):∀n,n<10^(k+1)->(Bt n).length<=k+1:=by
 induction k with
 |zero=>intro n h;rw[Cr (by simpa using h)];simp
 |succ k ih=>
  intro n h;by_cases hs:n<10
  ·rw[Cr hs];simp
  ·rw[Er hs,List.length_append];have:=ih (n/10) (by rw[Nat.pow_succ]at h;omega);simp;omega
theorem Md(n:Nat):1<=(Bt n).length:=by
 by_cases h:n<10
 ·rw[Cr h];simp
 ·rw[Er h];simp
theorem WS:∀n,1<=n->(Bt n)[0]?≠some 48:=by
 intro n;induction n using Nat.strongRecOn with
 |_ n ih=>
  intro hp;by_cases h:n<10
  ·rw[Cr h];simp only[List.getElem?_cons_zero,ne_eq,Option.some.injEq];intro e;have e':=congrArg UInt8.toNat e;rw[UInt8.toNat_ofNat_of_lt' (by simp[UInt8.size];omega)]at e';simp at e';omega
  ·rw[Er h,List.getElem?_append_left (Md _)];exact ih (n/10) (by omega) (by omega)
theorem Ny(h:n<10^10):okD (Bt n)=true:=by
 have h1:=Md n;have h2:=TQ 9 n h;have h3:(decide ((Bt n)[0]?≠some 48)||decide ((Bt n).length<=1))=true:=by
  by_cases hs:n<10
  ·rw[Cr hs];simp
  ·rw[Bool.or_eq_true,decide_eq_true_eq];exact .inl (WS n (by omega))
 unfold okD;rw[h3,Nb];simp[h1,h2]
theorem FU(h:∀b∈D,b≠c)(R:List UInt8):Ak c (D++c::R)=(D,R,true):=by
 induction D with
 |nil=>simp[Ak]
 |cons b D ih=>
  have hb:¬b=c:=h b (by simp);simp[Ak,hb,ih (fun x hx=>h x (by simp[hx]))]
theorem SV(h:∀b∈D,b≠c):Ak c D=(D,[],false):=by
 induction D with
 |nil=>rfl
 |cons b D ih=>
  have hb:¬b=c:=h b (by simp);simp[Ak,hb,ih (fun x hx=>h x (by simp[hx]))]
theorem FC(hc:Bg c=false)(n:Nat):∀b∈Bt n,b≠c:=fun b hb e=>by
 have:=List.all_eq_true.1 (Nb n) b hb;rw[e,hc]at this;exact absurd this (by simp)
def piece(c:Int×Int):List UInt8:=Bt c.1.toNat++58::Bt c.2.toNat
theorem KN(c:Int×Int):Ex c=44::piece c:=rfl
theorem Pu(c:Int×Int):∀b∈piece c,b≠44:=fun b hb=>by
 unfold piece at hb;rw[List.mem_append,List.mem_cons]at hb;rcases hb with hb|rfl|hb
 ·exact FC (by decide) _ b hb
 ·decide
 ·exact FC (by decide) _ b hb
def Fit(c:Int×Int):Prop:=(0<=c.1/\c.1<10^10)/\(0<=c.2/\c.2<10^10)
theorem Xw(c:Int×Int):Ak 58 (piece c)=(Bt c.1.toNat,Bt c.2.toNat,true):=FU (FC (by decide) _) _
theorem UJ{c:Int×Int}(h:Fit c):DO (piece c)=true/\LL (piece c)=c:=by
 obtain⟨⟨h1,h2⟩,⟨h3,h4⟩⟩:=h;have o1:okD (Bt c.1.toNat)=true:=Ny (by omega);have o2:okD (Bt c.2.toNat)=true:=Ny (by omega);unfold DO LL CF;rw[Xw];simp only[o1,o2,Sk,if_true,Bool.and_self,true_and];rw[Int.toNat_of_nonneg h1,Int.toNat_of_nonneg h3]
theorem UW:∀(cs:List (Int×Int)) (c:Int×Int) (n:Nat) (acc:List (Int×Int)),cs.length+1<=n->Fit c->(∀x∈cs,Fit x)->gather n (piece c++(cs.map Ex).flatten) true acc=some (acc++c::cs):=by
 intro cs;induction cs with
 |nil=>
  intro c n acc hn hc _;obtain⟨q,rfl⟩:∃q,n=q+1:=⟨n-1,by simp at hn;omega⟩;obtain⟨p1,p2⟩:=UJ hc;have e:Ak 44 (piece c++([].map Ex).flatten)=(piece c,[],false):=by simpa using SV (Pu c)
  rw[If q _ _ (by rw[e];exact p1),e,p2];exact EF _ _ _
 |cons d cs ih=>
  intro c n acc hn hc hcs;obtain⟨q,rfl⟩:∃q,n=q+1:=⟨n-1,by simp at hn;omega⟩;obtain⟨p1,p2⟩:=UJ hc;have e:Ak 44 (piece c++((d::cs).map Ex).flatten)=(piece c,piece d++(cs.map Ex).flatten,true):=by
   rw[List.map_cons,List.flatten_cons,KN,List.cons_append];exact FU (Pu c) _
  rw[If q _ _ (by rw[e];exact p1),e,p2];show gather q _ true _=_;rw[ih d q (acc++[c]) (by simp at hn;omega) (hcs d (by simp)) (fun x hx=>hcs x (by simp[hx]))];simp
theorem Yf{l:List (Int×Int)}(h:AO b l.length (Az l) (Ay l)=true):∀x∈l,Fit x:=fun x hx=>by
 obtain⟨i,hi,rfl⟩:=List.getElem_of_mem hx;have:=Jh.1 ((Gy h).2.2 i hi);simp[Az,Ay,hi]at this;unfold Fit;omega
theorem GK{l:List (Int×Int)}(h:AO b l.length (Az l) (Ay l)=true):Al (GR b l)=(b,l,true):=by
 obtain⟨h1,h2,_⟩:=Gy h;have hb:=Cv.1 h1;have hfit:=Yf h;have o1:okD (Bt b.toNat)=true:=Ny (by omega);have nb:CF (Bt b.toNat)=b:=by
  unfold CF;rw[if_pos o1,Sk];omega
 have nd:=FC (c:=44) (by decide) b.toNat;have key:Ak 44 (GR b l)=(Bt b.toNat,(Ak 44 (GR b l)).2.1,(Ak 44 (GR b l)).2.2)/\gather 12 (Ak 44 (GR b l)).2.1 (Ak 44 (GR b l)).2.2 []=some l:=by
  cases l with
  |nil=>
   have e:Ak 44 (GR b [])=(Bt b.toNat,[],false):=(by simpa[GR]using SV nd);rw[e];exact⟨rfl,rfl⟩
  |cons c cs=>
   have e:Ak 44 (GR b (c::cs))=(Bt b.toNat,piece c++(cs.map Ex).flatten,true):=by
    unfold GR;rw[List.map_cons,List.flatten_cons,KN,List.cons_append];exact FU nd _
   rw[e];exact⟨rfl,by simpa using UW cs c 12 [] (by simpa using h2) (hfit c (by simp)) (fun x hx=>hfit x (by simp[hx]))⟩
 obtain⟨k1,k2⟩:=key;unfold Al;rw[k1];simp only;rw[if_pos o1,k2,nb];simp[U4,h]
theorem Gf.ends{base:Int}{G:Option (List (Int×Int))}{l:List (Int×Int)}(hG:G=some l):∀(n:Nat) (R:List UInt8) (mo:Bool) (l0:List (Int×Int)),l0.length+n=12->Gf S base G R mo l0->S=GR base l:=by
 intro n;induction n with
 |zero=>
  intro R mo l0 hl h;obtain⟨h1,_,h3⟩:=h;have hg:=h1 (by omega);have e:12-l0.length=0:=by omega
  rw[e,hG]at hg;cases mo with
  |true=>rw[Ub]at hg;cases hg
  |false=>
   rw[EF]at hg;cases hg;simpa using h3
 |succ n ih=>
  intro R mo l0 hl h;cases mo with
  |false=>
   obtain⟨h1,_,h3⟩:=h;have hg:=h1 (by omega);rw[EF,hG]at hg;cases hg;simpa using h3
  |true=>
   cases hc:DO (Ak 44 R).1 with
   |false=>
    have:=h.bad (by omega) hc;rw[hG]at this;cases this
   |true=>exact ih _ _ _ (by rw[List.length_append];simp;omega) (h.next (by omega) hc)
theorem Xz{l:List (Int×Int)}(h:Al S=(b,l,true)):AO b l.length (Az l) (Ay l)=true/\GR b l=S:=by
 unfold Al at h;split at h
 ·rename_i ho;unfold U4 at h;split at h
  ·rename_i cats hg;split at h
   ·rename_i hok;cases h;exact⟨hok,((Gf.start ho).ends hg 12 _ _ _ rfl).symm⟩
   ·cases h
  ·cases h
 ·cases h
def dJ:Nat->List UInt8->List UInt8
 |0,L=>L
 |k+1,L=>(Ak 32 (dJ k L)).2.1
def dN(k:Nat)(L:List UInt8):List UInt8:=(Ak 32 (dJ k L)).1
def dO(k:Nat)(L:List UInt8):Bool:=(Ak 32 (dJ k L)).2.2
def nm(k:Nat)(L:List UInt8):Int:=CF (dN k L)
theorem Sb{c:UInt8}(h0:Bg c=false)(h1:c≠44)(h2:c≠58)(b:Int)(l:List (Int×Int)):∀x∈GR b l,x≠c:=fun x hx=>by
 unfold GR at hx;rw[List.mem_append]at hx;rcases hx with hx|hx
 ·exact FC h0 _ x hx
 ·rw[List.mem_flatten]at hx;obtain⟨t,ht,hx⟩:=hx;rw[List.mem_map]at ht;obtain⟨k,_,rfl⟩:=ht;unfold Ex at hx;rw[List.mem_cons,List.mem_append,List.mem_cons]at hx;rcases hx with rfl|hx|rfl|hx
  ·exact fun e=>h1 e.symm
  ·exact FC h0 _ x hx
  ·exact fun e=>h2 e.symm
  ·exact FC h0 _ x hx
theorem Fx(L:List UInt8):(Al L).2.1.length<=12:=by
 unfold Al;split
 ·unfold U4;split
  ·split
   ·rename_i h;exact(Gy h).2.1
   ·simp
  ·simp
 ·simp
open Go
variable {w:List UInt8}
structure TD where
 id:Int
 b1:Int
 l1:List (Int×Int)
 b2:Int
 l2:List (Int×Int)
 made:Int
 own:List Int
structure OD where
 id:Int
 kind:Int
 up:Int
 b1:Int
 l1:List (Int×Int)
 b2:Int
 l2:List (Int×Int)
 own:List Int
 data:List UInt8
 jA:List (List UInt8)
def zT:TD:=⟨0,0,[],0,[],0,[]⟩
def zO:OD:=⟨0,0,0,0,[],0,[],[],[],[]⟩
def bytesOf(l:List UInt8):ByteArray:=⟨l.toArray⟩
theorem AM(l:List UInt8):(bytesOf l).data.toList=l:=by simp[bytesOf]
theorem Au(l:List UInt8):(bytesOf l).size=l.length:=by simp[bytesOf,ByteArray.size]
def KH(l:List (Int×Int)):AH:=⟨none,l.length,0,Az l,Ay l⟩
def intD(l:List Int):AU:=⟨none,l.length,0,fun i=>l.getD i 0⟩
def Ol(l:List (List UInt8)):AX:=⟨none,l.length,0,fun i=>bytesOf (l.getD i [])⟩
def TD.v(d:TD):Af:=⟨d.id,d.b1,KH d.l1,d.b2,KH d.l2,intD d.own,d.made⟩
def OD.v(d:OD):Ae:=⟨d.id,d.kind,d.up,d.b1,KH d.l1,bytesOf d.data,Ol d.jA,intD d.own,d.b2,KH d.l2⟩
def Dd(ts:List TD)(os:List OD):AJ:=⟨none,ts.length,0,fun i=>(ts.getD i zT).v,none,os.length,0,fun i=>(os.getD i zO).v⟩
theorem Kv(b:Int)(l:List (Int×Int)):lb b (KH l)=GR b l:=by
 unfold lb KH;rw[M6]
theorem Jv{α:Type}(l:List α)(d:α):(List.range l.length).map (fun i=>l.getD i d)=l:=by
 apply List.ext_getElem
 ·simp
 ·intro i h1 h2;simp[List.getElem?_eq_getElem h2]
theorem Jc(l:List Int):AF (intD l)=l:=Jv l 0
def Aj:List UInt8->List (List UInt8)
 |[]=>[[]]
 |b::l=>if b=32 then[]::Aj l else match Aj l with
  |[]=>[[b]]
  |w::ws=>(b::w)::ws
theorem QI(L:List UInt8):Aj L≠[]:=by
 cases L with
 |nil=>simp[Aj]
 |cons b l=>
  rw[Aj];split
  ·simp
  ·split<;>simp
theorem K6(L:List UInt8):Aj L=(Ak 32 L).1::(if (Ak 32 L).2.2=true then Aj (Ak 32 L).2.1 else[]):=by
 induction L with
 |nil=>simp[Aj,Ak]
 |cons b l ih=>
  rw[Aj,Ak];by_cases h:b=32
  ·simp[h]
  ·rw[if_neg h,if_neg h,ih]
def Lq(ws:List (List UInt8)):List UInt8:=Lib.joinTail [32] ws
theorem Fe(w:List UInt8)(ws:List (List UInt8)):Lq (w::ws)=32::(w++Lq ws):=by simp[Lq,Lib.joinTail]
theorem WO:Lq []=[]:=rfl
def no(c:UInt8)(w:List UInt8):Prop:=∀b∈w,b≠c
theorem Ud(h:no 32 w)(ws:List (List UInt8)):Ak 32 (w++Lq ws)=(w,(match ws with|[]=>[]|x::r=>x++Lq r),(match ws with|[]=>false|_::_=>true)):=by
 cases ws with
 |nil=>rw[WO,List.append_nil,SV h]
 |cons x r=>rw[Fe,FU h]
theorem Kl{ws:List (List UInt8)}(h:∀x∈w::ws,no 32 x):Aj (w++Lq ws)=w::ws:=by
 induction ws generalizing w with
 |nil=>rw[K6,Ud (h w (List.mem_cons_self ..))];simp
 |cons x r ih=>
  rw[K6,Ud (h w (List.mem_cons_self ..))];simp only[if_true];rw[ih fun y hy=>h y (List.mem_cons_of_mem _ hy)]
theorem Rz(L:List UInt8):∃w ws,Aj L=w::ws/\L=w++Lq ws:=by
 induction L with
 |nil=>exact⟨[],[],rfl,rfl⟩
 |cons b l ih=>
  obtain⟨w,ws,h1,h2⟩:=ih;by_cases h:b=32
  ·refine⟨[],w::ws,?_,?_⟩
   ·simp only[Aj,h,if_true,h1]
   ·rw[Fe,List.nil_append,h,<-h2]
  ·refine⟨b::w,ws,?_,?_⟩
   ·simp only[Aj,h,if_false,h1]
   ·rw[List.cons_append,<-h2]
theorem Tx(L:List UInt8):∀w∈Aj L,no 32 w:=by
 induction L with
 |nil=>intro w hw;simp[Aj]at hw;subst hw;intro b hb;cases hb
 |cons b l ih=>
  intro w hw;rw[Aj]at hw;split at hw
  ·rcases List.mem_cons.1 hw with rfl|hw
   ·intro b hb;cases hb
   ·exact ih w hw
  ·rename_i hb;split at hw
   ·rename_i he;exact absurd he (QI l)
   ·rename_i x ws he;rw[he]at ih;rcases List.mem_cons.1 hw with rfl|hw
    ·intro c hc;rcases List.mem_cons.1 hc with rfl|hc
     ·exact hb
     ·exact ih x (List.mem_cons_self ..) c hc
    ·exact ih w (List.mem_cons_of_mem _ hw)
def Bb(w:List UInt8):Int:=if okD w=true then CF w else-1
def Qb(ws:List (List UInt8)):TD:=⟨Bb (ws.getD 0 []),(Al (ws.getD 1 [])).1,(Al (ws.getD 1 [])).2.1,(Al (ws.getD 2 [])).1,(Al (ws.getD 2 [])).2.1,Bb (ws.getD 3 []),(ws.drop 4).map Bb⟩
def Qk(ws:List (List UInt8)):OD:=⟨Bb (ws.getD 0 []),Bb (ws.getD 1 []),Bb (ws.getD 2 []),(Al (ws.getD 3 [])).1,(Al (ws.getD 3 [])).2.1,(Al (ws.getD 4 [])).1,(Al (ws.getD 4 [])).2.1,(ws.drop 5).map Bb,[],[]⟩
def Ia(os:List OD)(f:OD->OD):List OD:=match os.getLast? with
 |none=>os
 |some o=>os.dropLast++[f o]
def Ka(ts:List TD)(os:List OD)(l:List UInt8):Option (List TD×List OD):=
 if (Ak 32 l).1=Gh/\4<=(Aj (Ak 32 l).2.1).length then some (ts++[Qb (Aj (Ak 32 l).2.1)],os)
 else if (Ak 32 l).1=Fj/\5<=(Aj (Ak 32 l).2.1).length then some (ts,os++[Qk (Aj (Ak 32 l).2.1)])
 else if (Ak 32 l).1=Hz/\0<os.length then some (ts,Ia os fun o=>{o with data:=(Ak 32 l).2.1})
 else if (Ak 32 l).1=En/\0<os.length then some (ts,Ia os fun o=>{o with jA:=o.jA++[(Ak 32 l).2.1]})
 else none
def Ja:Nat->List TD->List OD->List UInt8->Option (List TD×List OD)
 |0,ts,os,_=>some (ts,os)
 |n+1,ts,os,R=>if R=[]then some (ts,os)else if (Ak 10 R).2.2=true then(match Ka ts os (Ak 10 R).1 with
  |none=>none
  |some p=>Ja n p.1 p.2 (Ak 10 R).2.1)else none
def Bf(W R:List UInt8):Option (List UInt8):=if (W++[32]).isPrefixOf R=true then some (R.drop (W.length+1))else none
def JA(ws:List (List UInt8)):Option TD:=if 4<=ws.length/\okD (ws.getD 0 [])=true/\(Al (ws.getD 1 [])).2.2=true/\(Al (ws.getD 2 [])).2.2=true/\okD (ws.getD 3 [])=true/\(ws.drop 4).all okD=true then some (Qb ws)else none
def LP(ws:List (List UInt8)):Option OD:=if 5<=ws.length/\okD (ws.getD 0 [])=true/\okD (ws.getD 1 [])=true/\okD (ws.getD 2 [])=true/\(Al (ws.getD 3 [])).2.2=true/\(Al (ws.getD 4 [])).2.2=true/\(ws.drop 5).all okD=true then some (Qk ws)else none
def Js:Nat->List TD->List UInt8->Option (List TD×List UInt8)
 |0,_,_=>none
 |n+1,ts,R=>match Bf Gh R with
  |none=>some (ts,R)
  |some Q=>if (Ak 10 Q).2.2=true then(match JA (Aj (Ak 10 Q).1)with
   |none=>none
   |some t=>Js n (ts++[t]) (Ak 10 Q).2.1)else none
def JG:Nat->List (List UInt8)->List UInt8->Option (List (List UInt8)×List UInt8)
 |0,_,_=>none
 |n+1,is,R=>match Bf En R with
  |none=>some (is,R)
  |some Q=>if (Ak 10 Q).2.2=true then JG n (is++[(Ak 10 Q).1]) (Ak 10 Q).2.1 else none
def Ih(R:List UInt8):Option (List UInt8×List UInt8):=match Bf Hz R with
 |none=>some ([],R)
 |some Q=>if (Ak 10 Q).2.2=true/\(Ak 10 Q).1≠[]then some ((Ak 10 Q).1,(Ak 10 Q).2.1)else none
def Dg(R:List UInt8):Option (OD×List UInt8):=match Bf Fj R with
 |none=>none
 |some Q=>if (Ak 10 Q).2.2=true then(match LP (Aj (Ak 10 Q).1)with
  |none=>none
  |some o=>match Ih (Ak 10 Q).2.1 with
   |none=>none
   |some d=>match JG (d.2.length+1) [] d.2 with
    |none=>none
    |some i=>some ({o with data:=d.1,jA:=i.1},i.2))else none
def JM:Nat->List OD->List UInt8->Option (List OD)
 |0,_,_=>none
 |n+1,os,R=>if R=[]then some os else match Dg R with
  |none=>none
  |some p=>JM n (os++[p.1]) p.2
def Ie(L:List UInt8):Option (List TD×List OD):=match Js (L.length+1) [] L with
 |none=>none
 |some p=>match JM (p.2.length+1) [] p.2 with
  |none=>none
  |some os=>if AW (Dd p.1 os)=true then some (p.1,os)else none
end Go.Proofs.YtblapfnglojgjaaGreatDoor
