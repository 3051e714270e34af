import Derived.Test.YteoihknaljgocaaGreatDoorZ29m
set_option maxRecDepth 100000
set_option maxHeartbeats 8000000
namespace Go.Proofs.YteoihknaljgocaaGreatDoor
open Go.RowKit Go.Deep Go.Maps
theorem Tz(base:Int)(f g:Nat->Int)(cat level:Int)(k:Nat):(FK base f g cat level k).1.length<=k+(FK base f g cat level k).2.toNat:=by
 induction k with
 |zero=>simp[FK]
 |succ k ih=>
  generalize hR:FK base f g cat level k=r at ih;obtain⟨l,d⟩:=r;rw[Oh hR];dsimp only at ih ⊢;have h2:(Ip l d cat level (f k)).1.length<=k+(Ip l d cat level (f k)).2.toNat:=by
   unfold Ip;cases d with
   |true=>simpa using ih
   |false=>
    split
    ·simp only[List.length_append,List.length_singleton,Bool.toNat_true];simp only[Bool.toNat_false]at ih;omega
    ·exact ih
  split
  ·omega
  ·rw[List.length_append];show _+1<=_;omega
theorem E7(base:Int)(n:Nat)(f g:Nat->Int)(cat level:Int):(Ez base n f g cat level).length<=n+1:=by
 have:=Tz base f g cat level n;unfold Ez;dsimp only;generalize FK base f g cat level n=r at this;obtain⟨l,d⟩:=r;cases d with
 |true=>simpa using this
 |false=>
  simp only[Bool.toNat_false]at this;simp only[Bool.false_eq_true,if_false,List.length_append,List.length_singleton];omega
structure Q5(w0 w W:World)(rb:Nat)(a:Option Addr)(n cap:Nat)(Z:Nat)(base:Int)(va:Option Addr)(vc:Nat)(l:List (Int×Int)):Prop where
 z:Ag W Z (.cells #[.int .i64 base,.slice va l.length vc] 30)
 r:Rd w0 W rb a n cap
 o:Bl W (Z+1) (.slice va l.length vc) l
 g:w.grownBy W (some rb)
section
variable {w0 w W W':World}{rb:Nat}{a:Option Addr}{n cap Z:Nat}{base:Int}{va:Option Addr}{vc:Nat}{l:List (Int×Int)}
theorem Q5.below(h:Q5 w0 w W rb a n cap Z base va vc l)(hb:Below W W W'):Q5 w0 w W' rb a n cap Z base va vc l:=
 ⟨h.z.below hb,h.r.below hb,Bl.below h.o hb,Jc h.g hb⟩
theorem Q5.call(h:Q5 w0 w W rb a n cap Z base va vc l)(hz:rb<Z)(r:Rd w0 W' rb a n cap)(hg:W.grownBy W' (some rb)):Q5 w0 w W' rb a n cap Z base va vc l:=
 ⟨h.z.grown hg (by simp;omega),r,World.ownsRow.kept h.o hg (Or.inr (fun e=>by have:=(World.ownsRow.lt h.o _ e).1;omega)),Cz h.g hg⟩
theorem Eh{x y:World}{P Z:Nat}(h:x.grownBy y (some P))(hz:x.heap.size<=Z)(i:Nat)(v:Value):x.grownBy (y.setCell ⟨Z,i,none⟩ v) (some P):=
 ⟨h.os,h.tape,h.output,by rw[nblk_setCell];exact h.size,fun j hj hne=>(blk_setCell_other _ _ _ _ (by dsimp only;omega)).trans (h.block j hj hne)⟩
theorem Rd.set(h:Rd w0 W rb a n cap)(hz:rb<Z)(i:Nat)(v:Value):Rd w0 (W.setCell ⟨Z,i,none⟩ v) rb a n cap:=by
 obtain⟨E,le,by',hn,p,hp,hB⟩:=h;exact⟨E.setCell (by dsimp only;omega) _,le,by',hn,p,hp,(blk_setCell_other _ _ _ _ (by dsimp only;omega)).trans hB⟩
theorem Q5.put{l':List (Int×Int)}{ua:Option Addr}{uc:Nat}(h:Q5 w0 w W rb a n cap Z base va vc l)(hz:rb<Z)(hw:w.heap.size<=Z)(o':Bl W (Z+1) (.slice ua l'.length uc) l'):
 Q5 w0 w ((W.setCell ⟨Z,0,none⟩ (.int .i64 base)).setCell ⟨Z,1,none⟩ (.slice ua l'.length uc)) rb a n cap Z base ua uc l':=
 ⟨(h.z.set0 _).set1 _,(h.r.set hz _ _).set hz _ _,Bl.set (Bl.set o' (by omega) _ _) (by omega) _ _,Eh (Eh h.g hw _ _) hw _ _⟩
theorem Q5.put0(h:Q5 w0 w W rb a n cap Z base va vc l)(hz:rb<Z)(hw:w.heap.size<=Z)(b':Int):
 Q5 w0 w (W.setCell ⟨Z,0,none⟩ (.int .i64 b')) rb a n cap Z b' va vc l:=
 ⟨h.z.set0 _,h.r.set hz _ _,Bl.set h.o (by omega) _ _,Eh h.g hw _ _⟩
theorem Q5.frame{row:Option Nat}(h:Q5 w0 w W rb a n cap Z base va vc l)(hz:rb<Z)(hw:w.heap.size<=Z)(hg:W.grownBy W' row)(hr:∀j,row=some j->Z+1<=j):
 Ag W' Z (.cells #[.int .i64 base,.slice va l.length vc] 30)/\Rd w0 W' rb a n cap/\w.grownBy W' (some rb):=by
 refine⟨h.z.grown hg (fun e=>by have:=hr Z e.symm;omega),?_,Ea h.g hg (fun j e=>by have:=hr j e;omega)⟩;obtain⟨E,le,by',hn,p,hp,hB⟩:=h.r;exact⟨E.grown hg E.size (fun j e=>by have:=hr j e;omega),le,by',hn,p,hp,hB.grown hg (fun e=>by have:=hr rb e.symm;omega)⟩
end
def Jd(x:Nat):Int:=if x=0 then 1001 else if x=1 then 2001 else if x=2 then 3001 else 5
theorem Je{W:World}{q:Nat}(h:Ag W q (.cells #[.int .i64 1001,.int .i64 2001,.int .i64 3001,.int .i64 5] 2)){x:Nat}(hx:x<4):W.cell? ⟨q,x,none⟩=some (.int .i64 (Jd x)):=by
 unfold Ag at h;have:x=0∨x=1∨x=2∨x=3:=by omega
 rcases this with rfl|rfl|rfl|rfl<;>simp[World.cell?,h,Jd]
section
variable {P:Program}{ops:Array Oper}{Q:Exit->Act->World->Prop}{md:Region.Mode}{S:World->Prop}{n:Nat}
theorem Ch.two{i j:Nat}{oi oj:Oper}{f:Nat}{L:Array Bool}{a:Act}{w:World}(hi:ops[i]? =some oi)(hj:ops[j]? =some oj)(hr:Region.ready md ops L=[i,j])
 (h1:∀K':Act->World->Prop,Hid (∀a w,(i≠n->S w)->Ch P md ops Q S n f (L.setIfInBounds i true) a w->K' a w)->if Region.wanted oi (yielded ops a.tmps)=true then Oper.wp P oi a w K' Q else K' (a.put oi.dst undef) w)
 (h2:∀K':Act->World->Prop,Hid (∀a w,(j≠n->S w)->Ch P md ops Q S n f (L.setIfInBounds j true) a w->K' a w)->if Region.wanted oj (yielded ops a.tmps)=true then Oper.wp P oj a w K' Q else K' (a.put oj.dst undef) w):Ch P md ops Q S n (f+1) L a w:=
 ⟨fun e=>absurd (hr.symm.trans e) (by simp),fun k hk=>by
   rw[hr]at hk;have:k=i∨k=j:=(by simpa using hk);rcases this with rfl|rfl
   ·exact wpOp_step hi (fun K' hK=>h1 K' (fun a w q1 q2=>hK a w ⟨q1,q2⟩))
   ·exact wpOp_step hj (fun K' hK=>h2 K' (fun a w q1 q2=>hK a w ⟨q1,q2⟩))⟩
end
open Go.Proofs.Tryz
theorem Md(w0:World)(rb:Nat)(a:Option Addr)(n cap:Nat)(w:World)(h:Rd w0 w rb a n cap):
 Calls prog 40 #[.pointer rb] w fun e w'=>∃(base:Int) (l:List (Int×Int)) (va:Option Addr) (vc:Nat),e= .returned (.agg #[.int .i64 base,.slice va l.length vc])/\l.length<=3/\Bl w' w (.slice va l.length vc) l/\Rd w0 w' rb a n cap/\w.grownBy w' (some rb):=by
 have HR:Hid (Rd w0 w rb a n cap):=h;have lr:=h.lt;clear h;have n4:No (.cells #[.int .i64 0,.slice none 0 0] 30):=⟨⟩;have K0:=(Below.refl _ w).alloc nr n4;have Y0:=Ag.new w n4;go_enter func40,ntmps40
 go_wp2_with fail
 refine(AI w0 rb a n cap 2 _ (by omega) (HR.out.below K0)).mono ?_;rintro e u1 ⟨x,rfl,_,x2,R1,g1⟩;have x2':=x2 (by omega);have gw:w.grownBy u1 (some rb):=Cz (Ea (Cs w rb) (World.grownBy_alloc w _ none) (fun j e=>by cases e)) g1;have Y1:=Y0.grown g1 (by simp;omega);have wx:IntKind.i64.wrap (1+(x:Int))=1+(x:Int):=by rw[IntKind.wrap_i64];omega
 have su:w.heap.size+1<=u1.heap.size:=by have:=g1.size;simpa using this
 have n7:No (.cells #[.int .i64 (1+(x:Int)),.slice none 0 0] 30):=⟨⟩;have L1:Q5 w0 w (u1.alloc n7) rb a n cap u1 (1+(x:Int)) none 0 []:=
  ⟨Ag.new _ _,R1.below (Bf _ _),AM.nil _ _ _ _,Jc gw (Bf _ _)⟩
 have Y2:=Y1.alloc n7;have hz:rb<u1.heap.size:=by omega
 have hw:w.heap.size<=u1.heap.size:=by omega
 clear R1 g1 Y1 Y0 K0 gw HR x2;go_wp2_with fail
 refine(El w0 rb a n cap 4 _ (by omega) L1.r).mono ?_;rintro e u2 ⟨t,rfl,R2,g2⟩;have L2:=L1.call hz R2 g2;have Y3:=Y2.grown g2 (by simp;omega);clear L1 R2 g2 Y2;generalize u1.heap.size=Z at *;go_upto_if 10 with fail
 go_cut[] (fun wc=>∃base:Int,Q5 w0 w wc rb a n cap Z base none 0 []/\Ag wc w n4)
 case first=>
  cases t with
  |true=>
   go_wp2_with fail
   refine(AI w0 rb a n cap 4 _ (by omega) L2.r).mono ?_;rintro e u3 ⟨y,rfl,_,_,R3,g3⟩;have L3:=L2.call hz R3 g3;have Y4:=Y3.grown g3 (by simp;omega);obtain⟨z1,z2⟩:=L3.z.two;have zf:=L3.z.jQ 0;go_wp2_with fail
   go_meet;case rel=>exact⟨_,L3.put0 hz hw _,(blk_setCell_other _ _ _ _ (by dsimp only;omega)).trans Y4⟩
  |false=>
   go_wp2_with fail
   go_meet;case rel=>exact⟨_,L2,Y3⟩
 case rest=>
  obtain⟨base,L4,Y4⟩:=hcut;clear L2 Y3;go_wp2_with fail
  refine(AI w0 rb a n cap 3 _ (by omega) L4.r).mono ?_;rintro e u4 ⟨m,rfl,_,m3,R5,g5⟩;have m3':=m3 (by omega);have L5:=L4.call hz R5 g5;have Y5:=Y4.grown g5 (by simp;omega);clear L4 R5 g5 Y4;go_wp2_with fail
  go_loopw [4] (fun i wr=>∃(k:Nat) (l:List (Int×Int)) (va:Option Addr) (vc:Nat),k<=2/\i= .int .i64 k/\l.length+k<=2/\Q5 w0 w wr rb a n cap Z base va vc l/\Ag wr w (.cells #[.int .i64 0,.slice none 0 0] 30)) (fun i _=>(intOf i).toNat)
  case atStart=>exact⟨m,[],none,0,by omega,rfl,by simp;omega,L5,Y5⟩
  case round=>
   obtain⟨k,l,va,vc,hk,rfl,hlk,L6,Y6⟩:=hrel;clear L5 Y5;by_cases hlt:0<k
   ·have hlt':(0:Int)<(k:Int):=(by omega);have wk:IntKind.i64.wrap ((k:Int)-1)=(k:Int)-1:=(by rw[IntKind.wrap_i64];omega);have Sd:wr.drew.cell? ⟨Z,0,none⟩=some (.int .i64 base)/\wr.drew.cell? ⟨Z,1,none⟩=some (.slice va l.length vc):=L6.z.two;have Ld:=L6.below (Below.refl _ wr).drew;have n5:No (.cells #[.int .i64 0,.slice none 0 0] 30):=⟨⟩;have Yd:Ag wr.drew w n5:=Y6;obtain⟨z1,z2⟩:=L6.z.two;go_wp2_with fail
    refine Ch.region (fun w'=>w'.cell? ⟨Z,0,none⟩=some (.int .i64 base)/\w'.cell? ⟨Z,1,none⟩=some (.slice va l.length vc)) 9 (by kernel_rfl) ?_;clear z1 z2;refine Ch.take (i:=0) (.agg #[.int .i64 base,.slice va l.length vc]) rfl (by kernel_rfl) (by kernel_rfl) (by kernel_rfl) (by kernel_rfl) (fun _ _ _ h=>h) Sd (Or.inl ⟨by rfl,fun w' h=>(by dsimp only at h;go_simp)⟩) ?_;simp only[Act.put,List.setIfInBounds_toArray];have n10:Nv (.pointer rb):=⟨⟩;refine Ch.take (i:=2) n10 rfl (by kernel_rfl) (by kernel_rfl) (by kernel_rfl) (by kernel_rfl) (fun _ _ _ h=>h) Sd (Or.inl ⟨by rfl,fun w' h=>(by dsimp only at h;go_simp)⟩) ?_;simp only[Act.put];refine Ch.take (i:=6) n10 rfl (by kernel_rfl) (by kernel_rfl) (by kernel_rfl) (by kernel_rfl) (fun _ _ _ h=>h) Sd (Or.inl ⟨by rfl,fun w' h=>(by dsimp only at h;go_simp)⟩) ?_;simp only[Act.put];refine Ch.two (i:=1) (j:=3) rfl rfl (by kernel_rfl) (fun K1 hK1=>?_) (fun K1 hK1=>?_)
    ·go_simp;have lq:Z<wr.heap.size:=L6.z.lt;have n1:No (.cells #[.int .i64 1001,.int .i64 2001,.int .i64 3001,.int .i64 5] 2):=⟨⟩;have Kv1:Below wr wr (wr.alloc n1).drew:=((Below.refl _ wr).alloc nr n1).drew;have Lv1:=L6.below Kv1;have Yv1:=Y6.below Kv1;have Bv1:Ag (wr.alloc n1).drew wr n1:=Ag.new wr n1;generalize (wr.alloc n1).drew=v1 at *;generalize wr.heap.size=q at *;refine hK1 _ _ (fun _=>Lv1.z.two) ?_;clear hK1 K1 Kv1;refine Ch.one (i:=3) rfl (by kernel_rfl) (fun K1 hK1=>?_);go_simp;refine(AI w0 rb a n cap 4 _ (by omega) Lv1.r).mono ?_;rintro e v3 ⟨x5,rfl,_,x54,Rv3,gv3⟩;have x54':=x54 (by omega);have x5i0:(0:Int)<=(x5:Int):=(by omega);have x5i4:(x5:Int)<4:=(by omega);have Lv3:=Lv1.call hz Rv3 gv3;have Yv3:=Yv1.grown gv3 (by simp;omega);have Bv3:=Bv1.grown gv3 (by simp;omega);refine hK1 _ _ (fun _=>Lv3.z.two) ?_;clear hK1 K1;refine Ch.take (i:=4) (.pointer (some ⟨q,x5,none⟩)) rfl (by kernel_rfl) (by kernel_rfl) (by kernel_rfl) (by kernel_rfl) (fun _ _ _ h=>h) Lv3.z.two (Or.inl ⟨by rfl,fun w' h=>(by dsimp only at h;go_simp)⟩) ?_;simp only[Act.put];refine Ch.two (i:=5) (j:=7) rfl rfl (by kernel_rfl) (fun K1 hK1=>?_) (fun K1 hK1=>?_)
     ·have c5:=Je Bv3 x54';go_simp;refine hK1 _ _ (fun _=>Lv3.z.two) ?_;clear hK1 K1 c5;refine Ch.one (i:=7) rfl (by kernel_rfl) (fun K1 hK1=>?_);go_simp;refine(AI w0 rb a n cap 4 _ (by omega) Lv3.r).mono ?_;rintro e v7 ⟨y,rfl,_,y4,Rv7,gv7⟩;have y4':=y4 (by omega);have yi0:(0:Int)<=(y:Int):=(by omega);have yi4:(y:Int)<4:=(by omega);have Lv7:=Lv3.call hz Rv7 gv7;have Yv7:=Yv3.grown gv7 (by simp;omega);have Bv7:=Bv3.grown gv7 (by simp;omega);refine hK1 _ _ (fun _=>Lv7.z.two) ?_;clear hK1 K1;refine Ch.one (i:=8) rfl (by kernel_rfl) (fun K1 hK1=>?_);go_simp;refine(FZ base va l.length vc (CM l) (CR l) (Jd x5) y _ (by omega) (AM.cats Lv7.o)).mono ?_;rintro e u9 ⟨ua,uc,rfl,uo,hb9⟩;have L9:=Lv7.below hb9;have Y9:=Yv7.below hb9;refine hK1 _ _ (fun _=>L9.z.two) ?_;clear hK1 K1;obtain⟨z6,z7⟩:=L9.z.two;have zf0:=L9.z.jQ 0;have zf1:=L9.z.jQ 1;refine Ch.one (i:=9) rfl (by kernel_rfl) (fun K1 hK1=>?_);go_simp;refine hK1 _ _ (fun h=>absurd rfl h) ?_;refine Ch.done (by kernel_rfl) ?_;have il:=E7 base l.length (CM l) (CR l) (Jd x5) y;have LN:=L9.put hz hw (ownsRow_base_a uo Lv7.z.lt);have YN:Ag _ w n5:=(blk_setCell_other _ ⟨Z,1,none⟩ (.slice ua (Ez base l.length (CM l) (CR l) (Jd x5) y).length uc) w (by dsimp only;omega)).trans ((blk_setCell_other _ ⟨Z,0,none⟩ (.int .i64 base) w (by dsimp only;omega)).trans Y9);clear hK1 K1 z6 z7 zf0 zf1 uo hb9 L9 Y9;go_wp2;go_roundw;case rel=>exact⟨k-1,_,_,_,by omega,by go_num,by omega,LN,YN⟩
      case measure=>simp[intOf];omega
     ·go_simp;refine(AI w0 rb a n cap 4 _ (by omega) Lv3.r).mono ?_;rintro e v7 ⟨y,rfl,_,y4,Rv7,gv7⟩;have y4':=y4 (by omega);have yi0:(0:Int)<=(y:Int):=(by omega);have yi4:(y:Int)<4:=(by omega);have Lv7:=Lv3.call hz Rv7 gv7;have Yv7:=Yv3.grown gv7 (by simp;omega);have Bv7:=Bv3.grown gv7 (by simp;omega);refine hK1 _ _ (fun _=>Lv7.z.two) ?_;clear hK1 K1;refine Ch.one (i:=5) rfl (by kernel_rfl) (fun K1 hK1=>?_);have c5:=Je Bv7 x54';go_simp;refine hK1 _ _ (fun _=>Lv7.z.two) ?_;clear hK1 K1 c5;refine Ch.one (i:=8) rfl (by kernel_rfl) (fun K1 hK1=>?_);go_simp;refine(FZ base va l.length vc (CM l) (CR l) (Jd x5) y _ (by omega) (AM.cats Lv7.o)).mono ?_;rintro e u9 ⟨ua,uc,rfl,uo,hb9⟩;have L9:=Lv7.below hb9;have Y9:=Yv7.below hb9;refine hK1 _ _ (fun _=>L9.z.two) ?_;clear hK1 K1;obtain⟨z6,z7⟩:=L9.z.two;have zf0:=L9.z.jQ 0;have zf1:=L9.z.jQ 1;refine Ch.one (i:=9) rfl (by kernel_rfl) (fun K1 hK1=>?_);go_simp;refine hK1 _ _ (fun h=>absurd rfl h) ?_;refine Ch.done (by kernel_rfl) ?_;have il:=E7 base l.length (CM l) (CR l) (Jd x5) y;have LN:=L9.put hz hw (ownsRow_base_a uo Lv7.z.lt);have YN:Ag _ w n5:=(blk_setCell_other _ ⟨Z,1,none⟩ (.slice ua (Ez base l.length (CM l) (CR l) (Jd x5) y).length uc) w (by dsimp only;omega)).trans ((blk_setCell_other _ ⟨Z,0,none⟩ (.int .i64 base) w (by dsimp only;omega)).trans Y9);clear hK1 K1 z6 z7 zf0 zf1 uo hb9 L9 Y9;go_wp2;go_roundw;case rel=>exact⟨k-1,_,_,_,by omega,by go_num,by omega,LN,YN⟩
      case measure=>simp[intOf];omega
    ·go_simp;refine(AI w0 rb a n cap 4 _ (by omega) Ld.r).mono ?_;rintro e v3 ⟨x5,rfl,_,x54,Rv3,gv3⟩;have x54':=x54 (by omega);have x5i0:(0:Int)<=(x5:Int):=(by omega);have x5i4:(x5:Int)<4:=(by omega);have Lv3:=Ld.call hz Rv3 gv3;have Yv3:=Yd.grown gv3 (by simp;omega);refine hK1 _ _ (fun _=>Lv3.z.two) ?_;clear hK1 K1;refine Ch.two (i:=1) (j:=7) rfl rfl (by kernel_rfl) (fun K1 hK1=>?_) (fun K1 hK1=>?_)
     ·go_simp;have lq:Z<v3.heap.size:=Lv3.z.lt;have n2:No (.cells #[.int .i64 1001,.int .i64 2001,.int .i64 3001,.int .i64 5] 2):=⟨⟩;have Kv1:Below v3 v3 (v3.alloc n2):=((Below.refl _ v3).alloc nr n2);have Lv1:=Lv3.below Kv1;have Yv1:=Yv3.below Kv1;have Bv1:Ag (v3.alloc n2) v3 n2:=Ag.new v3 n2;generalize (v3.alloc n2)=v1 at *;generalize v3.heap.size=q at *;refine hK1 _ _ (fun _=>Lv1.z.two) ?_;clear hK1 K1 Kv1;refine Ch.take (i:=4) (.pointer (some ⟨q,x5,none⟩)) rfl (by kernel_rfl) (by kernel_rfl) (by kernel_rfl) (by kernel_rfl) (fun _ _ _ h=>h) Lv1.z.two (Or.inl ⟨by rfl,fun w' h=>(by dsimp only at h;go_simp)⟩) ?_;simp only[Act.put];refine Ch.two (i:=5) (j:=7) rfl rfl (by kernel_rfl) (fun K1 hK1=>?_) (fun K1 hK1=>?_)
      ·have c5:=Je Bv1 x54';go_simp;refine hK1 _ _ (fun _=>Lv1.z.two) ?_;clear hK1 K1 c5;refine Ch.one (i:=7) rfl (by kernel_rfl) (fun K1 hK1=>?_);go_simp;refine(AI w0 rb a n cap 4 _ (by omega) Lv1.r).mono ?_;rintro e v7 ⟨y,rfl,_,y4,Rv7,gv7⟩;have y4':=y4 (by omega);have yi0:(0:Int)<=(y:Int):=(by omega);have yi4:(y:Int)<4:=(by omega);have Lv7:=Lv1.call hz Rv7 gv7;have Yv7:=Yv1.grown gv7 (by simp;omega);have Bv7:=Bv1.grown gv7 (by simp;omega);refine hK1 _ _ (fun _=>Lv7.z.two) ?_;clear hK1 K1;refine Ch.one (i:=8) rfl (by kernel_rfl) (fun K1 hK1=>?_);go_simp;refine(FZ base va l.length vc (CM l) (CR l) (Jd x5) y _ (by omega) (AM.cats Lv7.o)).mono ?_;rintro e u9 ⟨ua,uc,rfl,uo,hb9⟩;have L9:=Lv7.below hb9;have Y9:=Yv7.below hb9;refine hK1 _ _ (fun _=>L9.z.two) ?_;clear hK1 K1;obtain⟨z6,z7⟩:=L9.z.two;have zf0:=L9.z.jQ 0;have zf1:=L9.z.jQ 1;refine Ch.one (i:=9) rfl (by kernel_rfl) (fun K1 hK1=>?_);go_simp;refine hK1 _ _ (fun h=>absurd rfl h) ?_;refine Ch.done (by kernel_rfl) ?_;have il:=E7 base l.length (CM l) (CR l) (Jd x5) y;have LN:=L9.put hz hw (ownsRow_base_a uo Lv7.z.lt);have YN:Ag _ w n5:=(blk_setCell_other _ ⟨Z,1,none⟩ (.slice ua (Ez base l.length (CM l) (CR l) (Jd x5) y).length uc) w (by dsimp only;omega)).trans ((blk_setCell_other _ ⟨Z,0,none⟩ (.int .i64 base) w (by dsimp only;omega)).trans Y9);clear hK1 K1 z6 z7 zf0 zf1 uo hb9 L9 Y9;go_wp2;go_roundw;case rel=>exact⟨k-1,_,_,_,by omega,by go_num,by omega,LN,YN⟩
       case measure=>simp[intOf];omega
      ·go_simp;refine(AI w0 rb a n cap 4 _ (by omega) Lv1.r).mono ?_;rintro e v7 ⟨y,rfl,_,y4,Rv7,gv7⟩;have y4':=y4 (by omega);have yi0:(0:Int)<=(y:Int):=(by omega);have yi4:(y:Int)<4:=(by omega);have Lv7:=Lv1.call hz Rv7 gv7;have Yv7:=Yv1.grown gv7 (by simp;omega);have Bv7:=Bv1.grown gv7 (by simp;omega);refine hK1 _ _ (fun _=>Lv7.z.two) ?_;clear hK1 K1;refine Ch.one (i:=5) rfl (by kernel_rfl) (fun K1 hK1=>?_);have c5:=Je Bv7 x54';go_simp;refine hK1 _ _ (fun _=>Lv7.z.two) ?_;clear hK1 K1 c5;refine Ch.one (i:=8) rfl (by kernel_rfl) (fun K1 hK1=>?_);go_simp;refine(FZ base va l.length vc (CM l) (CR l) (Jd x5) y _ (by omega) (AM.cats Lv7.o)).mono ?_;rintro e u9 ⟨ua,uc,rfl,uo,hb9⟩;have L9:=Lv7.below hb9;have Y9:=Yv7.below hb9;refine hK1 _ _ (fun _=>L9.z.two) ?_;clear hK1 K1;obtain⟨z6,z7⟩:=L9.z.two;have zf0:=L9.z.jQ 0;have zf1:=L9.z.jQ 1;refine Ch.one (i:=9) rfl (by kernel_rfl) (fun K1 hK1=>?_);go_simp;refine hK1 _ _ (fun h=>absurd rfl h) ?_;refine Ch.done (by kernel_rfl) ?_;have il:=E7 base l.length (CM l) (CR l) (Jd x5) y;have LN:=L9.put hz hw (ownsRow_base_a uo Lv7.z.lt);have YN:Ag _ w n5:=(blk_setCell_other _ ⟨Z,1,none⟩ (.slice ua (Ez base l.length (CM l) (CR l) (Jd x5) y).length uc) w (by dsimp only;omega)).trans ((blk_setCell_other _ ⟨Z,0,none⟩ (.int .i64 base) w (by dsimp only;omega)).trans Y9);clear hK1 K1 z6 z7 zf0 zf1 uo hb9 L9 Y9;go_wp2;go_roundw;case rel=>exact⟨k-1,_,_,_,by omega,by go_num,by omega,LN,YN⟩
       case measure=>simp[intOf];omega
     ·go_simp;refine(AI w0 rb a n cap 4 _ (by omega) Lv3.r).mono ?_;rintro e v7 ⟨y,rfl,_,y4,Rv7,gv7⟩;have y4':=y4 (by omega);have yi0:(0:Int)<=(y:Int):=(by omega);have yi4:(y:Int)<4:=(by omega);have Lv7:=Lv3.call hz Rv7 gv7;have Yv7:=Yv3.grown gv7 (by simp;omega);refine hK1 _ _ (fun _=>Lv7.z.two) ?_;clear hK1 K1;refine Ch.one (i:=1) rfl (by kernel_rfl) (fun K1 hK1=>?_);go_simp;have lq:Z<v7.heap.size:=Lv7.z.lt;have n3:No (.cells #[.int .i64 1001,.int .i64 2001,.int .i64 3001,.int .i64 5] 2):=⟨⟩;have Kv1:Below v7 v7 (v7.alloc n3):=((Below.refl _ v7).alloc nr n3);have Lv1:=Lv7.below Kv1;have Yv1:=Yv7.below Kv1;have Bv1:Ag (v7.alloc n3) v7 n3:=Ag.new v7 n3;generalize (v7.alloc n3)=v1 at *;generalize v7.heap.size=q at *;refine hK1 _ _ (fun _=>Lv1.z.two) ?_;clear hK1 K1 Kv1;refine Ch.take (i:=4) (.pointer (some ⟨q,x5,none⟩)) rfl (by kernel_rfl) (by kernel_rfl) (by kernel_rfl) (by kernel_rfl) (fun _ _ _ h=>h) Lv1.z.two (Or.inl ⟨by rfl,fun w' h=>(by dsimp only at h;go_simp)⟩) ?_;simp only[Act.put];refine Ch.one (i:=5) rfl (by kernel_rfl) (fun K1 hK1=>?_);have c5:=Je Bv1 x54';go_simp;refine hK1 _ _ (fun _=>Lv1.z.two) ?_;clear hK1 K1 c5;refine Ch.one (i:=8) rfl (by kernel_rfl) (fun K1 hK1=>?_);go_simp;refine(FZ base va l.length vc (CM l) (CR l) (Jd x5) y _ (by omega) (AM.cats Lv1.o)).mono ?_;rintro e u9 ⟨ua,uc,rfl,uo,hb9⟩;have L9:=Lv1.below hb9;have Y9:=Yv1.below hb9;refine hK1 _ _ (fun _=>L9.z.two) ?_;clear hK1 K1;obtain⟨z6,z7⟩:=L9.z.two;have zf0:=L9.z.jQ 0;have zf1:=L9.z.jQ 1;refine Ch.one (i:=9) rfl (by kernel_rfl) (fun K1 hK1=>?_);go_simp;refine hK1 _ _ (fun h=>absurd rfl h) ?_;refine Ch.done (by kernel_rfl) ?_;have il:=E7 base l.length (CM l) (CR l) (Jd x5) y;have LN:=L9.put hz hw (ownsRow_base_a uo Lv1.z.lt);have YN:Ag _ w n5:=(blk_setCell_other _ ⟨Z,1,none⟩ (.slice ua (Ez base l.length (CM l) (CR l) (Jd x5) y).length uc) w (by dsimp only;omega)).trans ((blk_setCell_other _ ⟨Z,0,none⟩ (.int .i64 base) w (by dsimp only;omega)).trans Y9);clear hK1 K1 z6 z7 zf0 zf1 uo hb9 L9 Y9;go_wp2;go_roundw;case rel=>exact⟨k-1,_,_,_,by omega,by go_num,by omega,LN,YN⟩
      case measure=>simp[intOf];omega
   ·have hk0:k=0:=(by omega);subst hk0;go_wp2_with fail
    refine(El w0 rb a n cap 30 _ (by omega) L6.r).mono ?_;rintro e u7 ⟨t7,rfl,R7,g7⟩;have L7:=L6.call hz R7 g7;have Y7:=Y6.grown g7 (by simp;omega);have l3:l.length<=3:=(by omega);clear L6 Y6 R7 g7;cases t7 with
    |false=>
     obtain⟨z1,z2⟩:=L7.z.two;obtain⟨y1,y2⟩:=Y7.two;have yf0:=Y7.jQ 0;have yf1:=Y7.jQ 1;have ne6:Z≠w.heap.size:=(by omega);go_wp2;refine bodyPost_ret (v:= .agg #[.int .i64 base,.slice va l.length vc]) (by simp[results,Tryz.results40,go_sem, *]) rfl ⟨base,l,va,vc,rfl,by omega,?_,?_,?_⟩
     ·exact ownsRow_base_a (Bl.set (Bl.set L7.o (by omega) _ _) (by omega) _ _) (by omega)
     ·exact(L7.r.set lr _ _).set lr _ _
     ·exact Eh (Eh L7.g nr _ _) nr _ _
    |true=>
     have Sd:u7.drew.cell? ⟨Z,0,none⟩=some (.int .i64 base)/\u7.drew.cell? ⟨Z,1,none⟩=some (.slice va l.length vc):=L7.z.two;have Ld:=L7.below (Below.refl _ u7).drew;have n9:No (.cells #[.int .i64 0,.slice none 0 0] 30):=⟨⟩;have Yd:Ag u7.drew w n9:=Y7;obtain⟨z1,z2⟩:=L7.z.two;go_wp2_with fail
     refine Ch.region (fun w'=>w'.cell? ⟨Z,0,none⟩=some (.int .i64 base)/\w'.cell? ⟨Z,1,none⟩=some (.slice va l.length vc)) 8 (by kernel_rfl) ?_;clear z1 z2;have n11:Nv (.pointer (some ⟨Z,1,none⟩)):=⟨⟩;refine Ch.take (i:=0) n11 rfl (by kernel_rfl) (by kernel_rfl) (by kernel_rfl) (by kernel_rfl) (fun _ _ _ h=>h) Sd (Or.inl ⟨by rfl,fun w' h=>(by dsimp only at h;go_simp)⟩) ?_;simp only[Act.put,List.setIfInBounds_toArray];refine Ch.take (i:=1) (.slice va l.length vc) rfl (by kernel_rfl) (by kernel_rfl) (by kernel_rfl) (by kernel_rfl) (fun _ _ _ h=>h) Sd (Or.inl ⟨by rfl,fun w' h=>(by dsimp only at h;go_simp)⟩) ?_;simp only[Act.put];refine Ch.take (i:=2) (.pointer rb) rfl (by kernel_rfl) (by kernel_rfl) (by kernel_rfl) (by kernel_rfl) (fun _ _ _ h=>h) Sd (Or.inl ⟨by rfl,fun w' h=>(by dsimp only at h;go_simp)⟩) ?_;simp only[Act.put];refine Ch.one (i:=3) rfl (by kernel_rfl) (fun K1 hK1=>?_);go_simp;refine(Yu w0 rb a n cap 1 9 _ (by omega) (by omega) Ld.r).mono ?_;rintro e v3 ⟨x5,rfl,Rv3,gv3⟩;have Lv3:=Ld.call hz Rv3 gv3;have Yv3:=Yd.grown gv3 (by simp;omega);refine hK1 _ _ (fun _=>Lv3.z.two) ?_;clear hK1 K1;have n8:Na #[.int .i64 x5,.int .i64 2]:=⟨⟩;refine Ch.take (i:=4) (.agg n8) rfl (by kernel_rfl) (by kernel_rfl) (by kernel_rfl) (by kernel_rfl) (fun _ _ _ h=>h) Lv3.z.two (Or.inl ⟨by rfl,fun w' h=>(by dsimp only at h;go_simp)⟩) ?_;simp only[Act.put];refine Ch.one (i:=5) rfl (by kernel_rfl) (fun K1 hK1=>?_);go_simp;have Kb:=Bf v3 (.cells n8 78);have Lv4:=Lv3.below Kb;have Yv4:=Yv3.below Kb;have C4:=MJ v3 x5 2;have b4:Z+1<=(v3.alloc (.cells n8 78)).heap.size:=Lv4.z.lt;refine hK1 _ _ (fun _=>Lv4.z.two) ?_;clear hK1 K1;refine Ch.one (i:=6) rfl (by kernel_rfl) (fun K1 hK1=>?_);refine Fe _ rfl _ _ rfl (Z+1) _ _ (CM l) (CR l) rfl Lv4.o _ 1 1 (fun _=>x5) (fun _=>2) rfl C4 (by omega) b4 ?_;intro a' c' v6 hown' hgrow' hat';obtain⟨Zv6,Rv6,gv6⟩:=Lv4.frame hz hw hgrow' (fun j e=>(World.ownsRow.lt Lv4.o j e).1);have Yv6:=Yv4.grown hgrow' (fun e=>by have:=(World.ownsRow.lt Lv4.o _ e.symm).1;omega);refine hK1 _ _ (fun _=>Zv6.two) ?_;clear hK1 K1;simp only[Act.put];refine Ch.take (i:=7) n11 rfl (by kernel_rfl) (by kernel_rfl) (by kernel_rfl) (by kernel_rfl) (fun _ _ _ h=>h) Zv6.two (Or.inl ⟨by rfl,fun w' h=>(by dsimp only at h;go_simp)⟩) ?_;simp only[Act.put];obtain⟨z6,z7⟩:=Zv6.two;have zf1:=Zv6.jQ 1;have e1:l.length+1=(l++[(x5,2)]).length:=(by simp);have n6:Nv (.slice a' (l++[(x5,2)]).length c'):=⟨⟩;have o':Bl v6 (Z+1) n6 (l++[(x5,2)]):=(by rw[<-e1];exact Bl.snoc hown');have LN:Q5 w0 w (v6.setCell ⟨Z,1,none⟩ n6) rb a n cap Z base a' c' (l++[(x5,2)]):=⟨Zv6.set1 _,Rv6.set hz _ _,Bl.set o' (by omega) _ _,Eh gv6 hw _ _⟩;have YN:Ag (v6.setCell ⟨Z,1,none⟩ n6) w n9:=(blk_setCell_other _ _ _ _ (by dsimp only;omega)).trans Yv6;have HE1:Hid (l.length+1=(l++[(x5,2)]).length):=e1;clear e1;refine Ch.one (i:=8) rfl (by kernel_rfl) (fun K1 hK1=>?_);go_simp;refine hK1 _ _ (fun h=>absurd rfl h) ?_;refine Ch.done (by kernel_rfl) ?_;have e1:=HE1.out;clear HE1;rw[e1];have l4:(l++[(x5,2)]).length<=3:=(by rw[<-e1];omega);clear e1;generalize l++[(x5,2)]=l' at *;generalize v6.setCell ⟨Z,1,none⟩ (.slice a' l'.length c')=WN at *;clear hK1 K1 z6 z7 zf1 hown' o' Zv6 Rv6 gv6 Yv6;obtain⟨z1,z2⟩:=LN.z.two;obtain⟨y1,y2⟩:=YN.two;have yf0:=YN.jQ 0;have yf1:=YN.jQ 1;have ne6:Z≠w.heap.size:=(by omega);go_wp2;refine bodyPost_ret (v:= .agg #[.int .i64 base,.slice a' l'.length c']) (by simp[results,Tryz.results40,go_sem, *]) rfl ⟨base,l',a',c',rfl,by omega,?_,?_,?_⟩
     ·exact ownsRow_base_a (Bl.set (Bl.set LN.o (by omega) _ _) (by omega) _ _) (by omega)
     ·exact(LN.r.set lr _ _).set lr _ _
     ·exact Eh (Eh LN.g nr _ _) nr _ _
theorem BytesAt.below{w w':World}{a:Option Addr}{n:Nat}(h:BytesAt w a n)(hb:Below w w w'):BytesAt w' a n:=fun h0=>by
 obtain⟨b,off,e,hlt,hc⟩:=h h0;exact⟨b,off,e,Nat.lt_of_lt_of_le hlt hb.size,fun i hi=>by obtain⟨v,hv,r⟩:=hc i hi;exact⟨v,(hb.cell (p:=⟨b,off+i,none⟩) hlt).trans hv,r⟩⟩
theorem To(a:Option Addr)(n cap:Nat)(w:World)(hn:n<=1048576)(hb:BytesAt w a n):
 Calls prog 15 #[.slice a n cap] w fun e w'=>∃rb,e= .returned (.pointer (some ⟨rb,0,none⟩))/\Rd w w' rb a n cap:=by
 have n1:Nw (w.alloc (.cells #[.slice a n cap,.int .i64 0] 85)):=⟨⟩;have R:Rd w n1 w a n cap:=
  ⟨Bf w _,Nat.le_refl _,hb,hn,0,Nat.zero_le _,Ag.new w _⟩
 have HR:Hid (Rd w n1 w a n cap):=R;clear R hb;go_enter func15,ntmps15
 go_wp2;go_ret;exact⟨_,rfl,HR⟩
open Go Go.BigFrame Go.Shelf
theorem MU{w:World}{b e m:Nat}{F:Nat->Value}(h:w.rowIs b e m F):b<w.heap.size:=by
 obtain⟨cs,hc⟩:=Ko h;exact(Array.getElem?_eq_some_iff.1 hc).1
theorem Ar.new.jX{B rb:Nat}{w w':World}{c:Ar}(h:c.new B w)(g:w.grownBy w' (some rb))(hr:rb<B):c.new B w':=h.of g.size (fun b e hn=>by
 obtain⟨b',m,F,e',hb',_,hrow⟩:=h.2 hn;rw[e]at e';cases e';exact g.block b (MU hrow) (fun e=>by cases e;omega))
theorem AJ.new.jX{B rb:Nat}{w w':World}{c:AJ}(h:c.new B w)(g:w.grownBy w' (some rb))(hr:rb<B):c.new B w':=h.of g.size (fun b e hn=>by
 obtain⟨b',m,F,e',hb',_,hrow⟩:=h.2 hn;rw[e]at e';cases e';exact g.block b (MU hrow) (fun e=>by cases e;omega))
theorem AH.new.jX{B rb:Nat}{w w':World}{c:AH}(h:c.new B w)(g:w.grownBy w' (some rb))(hr:rb<B):c.new B w':=h.of g.size (fun b e hn=>by
 obtain⟨b',m,F,e',hb',_,hrow⟩:=h.2 hn;rw[e]at e';cases e';exact g.block b (MU hrow) (fun e=>by cases e;omega))
theorem BJ.jX{w w':World}{B rb:Nat}{vt vo:Value}{lt:List Ae}{lo:List Ab}(h:BJ w B vt vo lt lo)(g:w.grownBy w' (some rb))(hr:rb<B):BJ w' B vt vo lt lo:=
 ⟨World.ownsRow.kept h.t g (Or.inr (fun e=>by have:=(World.ownsRow.lt h.t _ e).1;omega)),World.ownsRow.kept h.o g (Or.inr (fun e=>by have:=(World.ownsRow.lt h.o _ e).1;omega)),
   fun x hx=>⟨(h.tn x hx).1.jX g hr,(h.tn x hx).2.1.jX g hr,(h.tn x hx).2.2.jX g hr⟩,fun x hx=>⟨(h.on x hx).1.jX g hr,(h.on x hx).2.1.jX g hr,(h.on x hx).2.2.1.jX g hr,(h.on x hx).2.2.2.jX g hr⟩,h.tc,h.oc⟩
structure IV(w0 w W:World)(rb:Nat)(a:Option Addr)(n cap:Nat):Prop where
 r:Rd w0 W rb a n cap
 g:w.grownBy W (some rb)
section
variable {w0 w W W':World}{rb n cap:Nat}{a:Option Addr}
theorem IV.refl(h:Rd w0 w rb a n cap):IV w0 w w rb a n cap:=⟨h,Cs w rb⟩
theorem IV.below(h:IV w0 w W rb a n cap)(hb:Below W W W'):IV w0 w W' rb a n cap:=⟨h.r.below hb,Jc h.g hb⟩
theorem IV.alloc(h:IV w0 w W rb a n cap)(o:Obj):IV w0 w (W.alloc o) rb a n cap:=h.below ((Below.refl _ W).alloc nr o)
theorem IV.call(h:IV w0 w W rb a n cap)(r:Rd w0 W' rb a n cap)(g:W.grownBy W' (some rb)):IV w0 w W' rb a n cap:=⟨r,Cz h.g g⟩
theorem IV.lt(h:IV w0 w w rb a n cap):rb<w.heap.size:=h.r.lt
theorem IV.set(h:IV w0 w W rb a n cap)(hr:rb<w.heap.size){Z:Nat}(hz:w.heap.size<=Z)(i:Nat)(v:Value):IV w0 w (W.setCell ⟨Z,i,none⟩ v) rb a n cap:=⟨h.r.set (by omega) i v,Eh h.g hz i v⟩
theorem IV.drew(h:IV w0 w W rb a n cap):IV w0 w W.drew rb a n cap:=h.below (AF (Below.refl _ W))
theorem IV.keeps(h:Rd w0 W rb a n cap)(g:W.grownBy W' (some rb)):En W W':=⟨g.size,fun b cs t hb ht=>by
 by_cases e:b=rb
 ·subst e;obtain⟨p,_,hp⟩:=h.at';unfold Ag at hp;rw[hp]at hb;simp only[Option.some.injEq,Obj.cells.injEq]at hb;obtain⟨_,rfl,_⟩:=hb;exfalso;revert ht;decide
 ·exact g.block b (Array.getElem?_eq_some_iff.1 hb).1 (fun e'=>by cases e';exact e rfl)⟩
end
theorem J9(w0:World)(rb:Nat)(a:Option Addr)(n cap:Nat)(w:World)(h:Rd w0 w rb a n cap):
 Calls prog 43 #[.pointer rb] w fun e w'=>∃x:ByteArray,e= .returned (.string x)/\x.size<=100/\Rd w0 w' rb a n cap/\w.grownBy w' (some rb):=by
 have HR:=hid (IV.refl h);have lr:=h.lt;clear h;go_enter func43,ntmps43
 go_wp2_with fail
 have B0:Hid (∀o,IV w0 w (w.alloc o) rb a n cap):=hid (fun o=>HR.out.alloc o);refine(AI w0 rb a n cap 6 _ (by omega) (B0 _).r).mono ?_;rintro e w1 ⟨x,rfl,_,hx,r1,g1⟩;have x6:=hx (by omega);have R1:=hid ((B0 _).call r1 g1);have Z1:=hid ((Ag.new w _).grown g1 (by simp;omega));clear r1 g1 hx B0 HR;have z:=Z1.out.c0;have c0:=z 0 rfl;have c1:=z 1 rfl;have c2:=z 2 rfl;have c3:=z 3 rfl;have c4:=z 4 rfl;have c5:=z 5 rfl;clear z;have cs:x=0∨x=1∨x=2∨x=3∨x=4∨x=5:=by omega
 rcases cs with rfl|rfl|rfl|rfl|rfl|rfl;all_goals
  go_wp2;go_ret;exact⟨_,rfl,by decide,R1.out.r,R1.out.g⟩
theorem Sx(w0:World)(rb:Nat)(a:Option Addr)(n cap:Nat)(w:World)(h:Rd w0 w rb a n cap)(lt:List Ae)(lo:List Ab)(g ca q co B:Nat)(st:BJ w B (.slice g lt.length ca) (.slice q lo.length co) lt lo)(hr:rb<B)(h1:1<=lo.length)(h2:lo.length<=65536)(hd:∀x∈lo,x.data.size<=maxLen)(hi:∀x∈lo,0<=x.id/\x.id<=1000000):
 Calls prog 39 #[.pointer rb,.agg #[.slice g lt.length ca,.slice q lo.length co]] w fun e w'=>∃x:Int,e= .returned (.int .i64 x)/\(0<=x/\x<=1000000)/\Rd w0 w' rb a n cap/\w.grownBy w' (some rb):=by
 have HR:=hid (IV.refl h);have HS:=hid st;have lr:=h.lt;have n2:No (.cells #[.slice g lt.length ca,.slice q lo.length co] 27):=⟨⟩;have R0:=hid (HR.out.alloc n2);have K0:=hid (Ag.new w n2);have nr:¬w.heap.size=rb:=by omega
 clear h st;go_enter func39,ntmps39
 go_wp2_with fail
 refine(El w0 rb a n cap 8 _ (by omega) R0.out.r).mono ?_;rintro e w1 ⟨t,rfl,r1,g1⟩;have R1:=hid (R0.out.call r1 g1);have K1:=hid (K0.out.grown g1 (by simp;omega));clear r1 g1 R0 K0;obtain⟨x0,x1⟩:=K1.out.two;cases t with
 |true=>
  go_wp2_with fail
  have B0:Hid (∀o,IV w0 w (w1.alloc o) rb a n cap):=hid (fun o=>R1.out.alloc o);refine(AI w0 rb a n cap 5 _ (by omega) (B0 _).r).mono ?_;rintro e w2 ⟨x,rfl,_,hx,r2,g2⟩;have x6:=hx (by omega);have R2:=hid ((B0 _).call r2 g2);have s1:w.heap.size<=w1.heap.size:=R1.out.g.size;have Z1:=hid ((Ag.new w1 _).grown g2 (by simp;omega));clear r2 g2 hx B0;have z:=Z1.out.c0;have c0:=z 0 rfl;have c1:=z 1 rfl;have c2:=z 2 rfl;have c3:=z 3 rfl;have c4:=z 4 rfl;clear z x0 x1;have cs:x=0∨x=1∨x=2∨x=3∨x=4:=by omega
  rcases cs with rfl|rfl|rfl|rfl|rfl;all_goals
   go_wp2;go_ret;exact⟨_,rfl,by omega,R2.out.r,R2.out.g⟩
 |false=>
  have n0:((lo.length:Int)==0)=false:=by simp only[beq_eq_false_iff_ne,ne_eq];omega
  have n1:decide ((lo.length:Int)=0)=false:=decide_eq_false (by omega);go_wp2_with fail
  have E1:Hid (∀args w,(callFunc 36 args).run prog w= .ok (.enter 36 args) w):=hid (enters_of func36 (by kernel_rfl) rfl);have F1:Hid (∀W,IV w0 w W rb a n cap/\Ag W w n2->Calls prog 36 #[.pointer rb,.int .i64 (lo.length:Int)] W fun e w'=>∃v,e= .returned v/\(∃u:Nat,v= .int .i64 (u:Int)/\u<lo.length/\(IV w0 w w' rb a n cap/\Ag w' w n2))):=hid (fun W hW=>(AI w0 rb a n cap lo.length W h2 hW.1.r).mono fun e w' ⟨x,e1,_,hx,r,g'⟩=>⟨_,e1,x,rfl,hx h1,hW.1.call r g',hW.2.grown g' (by simp;omega)⟩);have DR:Hid (IV w0 w w1.drew rb a n cap/\Ag w1.drew w n2):=hid ⟨R1.out.drew,K1.out.below (AF (Below.refl _ w1))⟩;clear x0 x1;refine Am 11 (fun W=>IV w0 w W rb a n cap/\Ag W w n2) (by kernel_rfl) ?_;have n4:Nv (.pointer (some ⟨w,1,none⟩)):=⟨⟩;refine tr 0 18 n4 DR ?_;have n3:Nv (.slice q lo.length co):=⟨⟩;refine tr 1 19 n3 DR ?_ (hy:=fun W h=>by obtain⟨z0,z1⟩:=h.2.two;go_simp);refine tr 2 20 (.pointer rb) DR ?_;refine tr 3 21 n4 DR ?_;refine tr 4 22 n3 DR ?_ (hy:=fun W h=>by obtain⟨z0,z1⟩:=h.2.two;go_simp);refine tr 5 23 (.int .i64 (lo.length:Int)) DR ?_;generalize w1.drew=WD at *;refine Ac (i:=6) (by kernel_rfl) rfl ?_;intro K hK;refine AL (by rfl) 36 _ _ _ (by rfl) E1 _ _ (by rfl) (by rfl) (some 24) (by rfl) _ (F1 _ DR) ?_;rintro v w2 ⟨u,rfl,ul,hS⟩;have H1:=hid hS;refine hK _ _ (fun _=>H1) ?_;clear hK K hS;simp only[ap,List.set];have j1:(u:Int)<(lo.length:Int):=by omega
  have j2:(0:Int)<=(u:Int):=by omega
  have IDC:Hid (∀W,IV w0 w W rb a n cap/\Ag W w n2->W.cell? ⟨q,u*10,none⟩=some (.int .i64 (lo[u]).id)):=hid (fun W hW=>((HS.out.jX hW.1.g hr).jF ul hd).1.c0);have IDO:=hid (hi _ (List.getElem_mem ul));generalize (lo[u]).id=x at *;have n5:Nv (.pointer (some ⟨q,u*10,none⟩)):=⟨⟩;refine tr 7 25 n5 H1 ?_;refine tr 8 26 n5 H1 ?_;refine tr 9 27 (.int .i64 x) H1 ?_ (hy:=fun W h=>by have z0:=IDC.out W h;go_simp);refine tr 10 4 (.int .i64 x) H1 ?_;refine Aj (by kernel_rfl) ?_ _;go_wp2;go_ret;exact⟨x,rfl,IDO,H1.out.1.r,H1.out.1.g⟩
end Go.Proofs.YteoihknaljgocaaGreatDoor
