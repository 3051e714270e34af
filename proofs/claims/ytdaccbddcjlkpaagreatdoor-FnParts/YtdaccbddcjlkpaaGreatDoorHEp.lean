import Derived.Test.YtdaccbddcjlkpaaGreatDoorZ13p
set_option maxRecDepth 100000
set_option maxHeartbeats 16000000
namespace Go.Proofs.YtdaccbddcjlkpaaGreatDoor
open Go.RowKit Go.Deep Go.Proofs.Tryz
theorem RH(th kind id to' cat:Int)(d:ByteArray)(bl:Int)(al:Option Addr)(nl kl:Nat)(fl gl:Nat->Int)(bc:Int)(ac:Option Addr)(nc kc:Nat)(fc gc:Nat->Int)(w:World)(hd:d.size<=maxLen)(hnl:nl<=maxLen)(hnc:nc<=maxLen)(hcl:Bd w al nl fl gl)(hcc:Bd w ac nc fc gc):
 Calls prog 43 #[.agg #[th,.int .i64 kind,.int .i64 id,.int .i64 to',cat,.string d,.int .i64 bl,.slice al nl kl,.int .i64 bc,.slice ac nc kc]] w fun e w'=>e= .returned (.bool (Hi th kind id to' cat d bl nl fl gl bc nc fc gc))/\Below w w w':=by
 have n1:No (.cells #[th,.int .i64 kind,.int .i64 id,.int .i64 to',cat,.string d,.int .i64 bl,.slice al nl kl,.int .i64 bc,.slice ac nc kc] 50):=⟨⟩;have L0:=(Below.refl _ w).alloc nr n1;have A0:=Ag.new w n1;obtain⟨so,hso⟩:∃so,so=Hi th kind id to' cat d bl nl fl gl bc nc fc gc:=⟨_,rfl⟩;rw[<-hso];unfold Hi at hso;go_enter func43,ntmps43
 go_wp2_with(go_at_call 24;refine(Cm _ _ _ _).mono ?_;rintro e w' ⟨rfl,rfl⟩)
 generalize hi1:Ev id 1 9030=i1 at *;generalize hi2:Ev to' 1 9030=i2 at *;generalize hi3:Ev cat 1 9999=i3 at *;refine(Om _ _ _ _ _ hnc).mono ?_;rintro e w1 ⟨rfl,hb1⟩;have A1:=A0.below hb1;have L1:Below w w w1:=L0.trans (hb1.mono sI);clear A0 L0 hb1;obtain⟨c0,c1,c2,c3,c4,c5,c6,c7,c8,c9⟩:=A1.jE;have HI1:Hid (Ev id 1 9030=i1):=hi1;have HI2:Hid (Ev to' 1 9030=i2):=hi2;have HI3:Hid (Ev cat 1 9999=i3):=hi3;clear hi1 hi2 hi3;generalize hzc:DV bc nc=zc at *;generalize hzl:DV bl nl=zl at *;have HZL:Hid (DV bl nl=zl):=hzl;have HSO:Hid (so=_):=hso;clear hzl hso;obtain⟨pp,hpp⟩:∃pp,pp=(zl&&zc):=⟨_,rfl⟩;have HPP:Hid (pp=(zl&&zc)):=hpp;clear hpp;go_upto_region 5 with fail
 clear c0 c1 c2 c3 c4 c5 c6 c7 c8 c9 hzc;go_cut[7] (fun p wc=>p= .bool pp/\Ag wc w (.cells #[th,.int .i64 kind,.int .i64 id,.int .i64 to',cat,.string d,.int .i64 bl,.slice al nl kl,.int .i64 bc,.slice ac nc kc] 50)/\Below w w wc)
 case first=>
  obtain⟨c0,c1,c2,c3,c4,c5,c6,c7,c8,c9⟩:=A1.jE;go_wp2_with fail
  refine(Om _ _ _ _ _ hnl).mono ?_;rintro e w2 ⟨rfl,hb2⟩;rw[HZL.out];have A2:=A1.below hb2;have L2:Below w w w2:=L1.trans (hb2.mono L1.size);clear c0 c1 c2 c3 c4 c5 c6 c7 c8 c9 hb2;cases zl with
  |true=>
   go_wp2_with fail
   go_meet;case rel=>exact⟨by rw[HPP.out];simp,A2,L2⟩
  |false=>
   go_wp2_with fail
   go_meet;case rel=>exact⟨by rw[HPP.out];simp,A2,L2⟩
 case rest=>
  obtain⟨rfl,A2,L2⟩:=hcut;clear A1 L1;obtain⟨c0,c1,c2,c3,c4,c5,c6,c7,c8,c9⟩:=A2.jE;by_cases t2:Ev th 1 9=true;rotate_left
  ·have t2':Ev th 1 9=false:=(by simpa using t2);clear t2;go_wp2_with(go_at_call 24;refine(Cm _ _ _ _).mono ?_;rintro e w' ⟨rfl,rfl⟩)
   go_ret;exact⟨Ah (by rw[HSO.out];simp[Fj,t2']),L2⟩
  go_wp2_with(go_at_call 24;refine(Cm _ _ _ _).mono ?_;rintro e w' ⟨rfl,rfl⟩)
  refine(Hz _ _ _ _ fl gl _ hnl (hcl.below L2)).mono ?_;rintro e w3 ⟨rfl,hb3⟩;have A3:=A2.below hb3;have L3:Below w w w3:=L2.trans (hb3.mono L2.size);clear c0 c1 c2 c3 c4 c5 c6 c7 c8 c9 A2 hb3;obtain⟨c0,c1,c2,c3,c4,c5,c6,c7,c8,c9⟩:=A3.jE;by_cases t3:Bb bl nl fl gl=true;rotate_left
  ·have t3':Bb bl nl fl gl=false:=(by simpa using t3);clear t3;go_wp2;go_ret;exact⟨Ah (by rw[HSO.out];simp[Fj,t3']),L3⟩
  go_wp2_with fail
  refine(Hz _ _ _ _ fc gc _ hnc (hcc.below L3)).mono ?_;rintro e w4 ⟨rfl,hb4⟩;have A4:=A3.below hb4;have L4:Below w w w4:=L3.trans (hb4.mono L3.size);clear c0 c1 c2 c3 c4 c5 c6 c7 c8 c9 A3 hb4;obtain⟨c0,c1,c2,c3,c4,c5,c6,c7,c8,c9⟩:=A4.jE;by_cases t5:Bb bc nc fc gc=true;rotate_left
  ·have t5':Bb bc nc fc gc=false:=(by simpa using t5);clear t5;go_wp2;go_ret;exact⟨Ah (by rw[HSO.out];simp[Fj,t5']),L4⟩
  go_wp2_with fail
  refine(Jz d 40 _ hd).mono ?_;rintro e w5 ⟨rfl,rfl⟩;by_cases t7:By d 40=true;rotate_left
  ·have t7':By d 40=false:=(by simpa using t7);clear t7;go_wp2;go_ret;exact⟨Ah (by rw[HSO.out];simp[Fj,t7']),L4⟩
  have GSO:Hid (so=Fj (dw kind) (fo kind) (fx kind) (UG kind) (QZ kind) (Mz kind) (Jt kind) th kind id to' cat d true zl true zc):=by show _=_;rw[HSO.out,t3,t5]
  have T2:Hid (Ev th 1 9=true):=t2;have T7:Hid (By d 40=true):=t7;clear HSO t2 t7 t3 t5 hd hnl hnc hcl hcc HZL;go_wp2;all_goals
   go_ret;refine⟨Ah ?_,L4⟩;have hp:=HPP.out;have g1:=HI1.out;have g2:=HI2.out;have g3:=HI3.out;have g4:=T2.out;have g5:=T7.out;rw[GSO.out];clear GSO HPP HI1 HI2 HI3 T2 T7 A4 L4 c0 c1 c2 c3 c4 c5 c6 c7 c8 c9;cases zl<;>cases zc<;>simp_all[Fj,NF,Pt,Le,dw,fo,fx,UG,QZ,Mz,Jt];all_goals first|exact Bool.eq_iff_iff.2 sI|(intro _ hc;rw[hc]at g3;simp[Ev]at g3)
end Go.Proofs.YtdaccbddcjlkpaaGreatDoor
