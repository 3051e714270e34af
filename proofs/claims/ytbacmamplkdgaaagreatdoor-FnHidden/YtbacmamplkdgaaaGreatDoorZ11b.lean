import Derived.Test.YtbacmamplkdgaaaGreatDoorNC5b
import Derived.Test.YtbacmamplkdgaaaGreatDoorZ3b
import Derived.Test.YtbacmamplkdgaaaGreatDoorZ0b
import Derived.Lib.ConvBytes
import Derived.Deep.QuietTactic
import Derived.BigQuiet
import Derived.WalkSmall
import Derived.Test.YtbacmamplkdgaaaGreatDoorZ4b
import Derived.Laws.IdiomStrings
import Derived.Test.YtbacmamplkdgaaaGreatDoorZ1b
set_option maxRecDepth 100000
set_option maxHeartbeats 16000000
namespace Go.Proofs.YtbacmamplkdgaaaGreatDoor
open Go Go.RowKit Go.Deep Go.Maps Go.BigFrame Go.Shelf
theorem OwnI.newL{w:World}{B c:Nat}{a:Option Addr}{l:List Int}(h:OwnI w B (.slice a l.length c) l)(hl:l.length≤1048576):IntL.new B w ⟨a,l.length,c,nthI l⟩:=by
 refine ownI_newL ?_ hl;have e:(List.range l.length).map (nthI l)=l:=List.ext_getElem (by simp) fun i h1 h2=>by simp[nthI,h2]
 rw[e];exact h
theorem OwnI.below'{w w':World}{B:Nat}{v:Value}{l:List Int}(h:OwnI w B v l)(hb:Below w.heap.size w w'):OwnI w' B v l:=World.ownsRow.kept (row:=none) h ⟨hb.os,hb.tape,hb.output,hb.size,fun k hk _=>hb.block k hk⟩ (by cases v.ownBlock<;>simp)
theorem KSt.setOwn{w:World}{B g ca:Nat}{vo:Value}{lt:List ThrV}{lo:List ObjV}(h:KSt w B (.slice (some ⟨g,0,none⟩) lt.length ca) vo lt lo){t:Nat}{d:IntL}(ht:t<lt.length){X:ThrV}(hX:X=lt[t])(hd:d.new B w)(hdc:d.n≤d.k∧d.k≤maxLen):
 KSt (w.setCell ⟨g,t*7+5,none⟩ (.slice d.a d.n d.k)) B (.slice (some ⟨g,0,none⟩) lt.length ca) vo (lt.set t ⟨X.id,X.b1,X.c1,X.b2,X.c2,d,X.made⟩) lo∧(∃cur,Blk w g (.cells cur 75))∧B≤g:=by
 have hn:=h.tn _ (List.getElem_mem ht);rw[←hX]at hn;obtain⟨k1,hcur,hg⟩:=h.setT (x:=⟨X.id,X.b1,X.c1,X.b2,X.c2,d,X.made⟩) (u:= .slice d.a d.n d.k) ht (i:=5) (by omega) (by rw[←hX];rfl) ⟨hn.1,hn.2.1,hd⟩ hdc;have el:(lt.set t (⟨X.id,X.b1,X.c1,X.b2,X.c2,d,X.made⟩:ThrV)).length=lt.length:=by simp
 rw[el]at k1;exact⟨k1,hcur,hg⟩
def leftL(h:Nat→Int)(c:Int)(j:Nat):List Int:=((List.range j).map h).filter (fun y=> !decide (y=c))
theorem leftL_skip{h:Nat→Int}{c:Int}{j:Nat}(e:h j=c):leftL h c (j+1)=leftL h c j:=by
 unfold leftL;rw[List.range_succ,List.map_append,List.filter_append];simp[e]
theorem leftL_more{h:Nat→Int}{c:Int}{j:Nat}(e:h j≠c):leftL h c (j+1)=leftL h c j++[h j]:=by
 unfold leftL;rw[List.range_succ,List.map_append,List.filter_append];simp[e]
theorem leftL_len(h:Nat→Int)(c:Int)(j:Nat):(leftL h c j).length≤j:=by
 unfold leftL;refine Nat.le_trans (List.length_filter_le _ _) ?_;simp
theorem l4Self_leave(lt:List ThrV)(lo:List ObjV)(g ca:Nat)(oa:Option Addr)(co B:Nat)(w:World)(st:KSt w B (.slice (some ⟨g,0,none⟩) lt.length ca) (.slice oa lo.length co) lt lo)(hB:B≤w.heap.size)(t:Nat)(ht:t<lt.length)(X:ThrV)(hX:X=lt[t])(xs:X.small)(s:StepV)(hk:s.kind=14):
 Calls Tryz.prog 137 #[.agg #[.slice (some ⟨g,0,none⟩) lt.length ca,.slice oa lo.length co],.int .i64 t,.agg #[.int .i64 s.th,.int .i64 s.kind,.int .i64 s.id,.int .i64 s.to,.int .i64 s.cat,.string s.data,.int .i64 s.b1,.slice s.c1.a s.c1.n s.c1.k,.int .i64 s.b2,.slice s.c2.a s.c2.n s.c2.k]] w fun e w'=>∃(x:ThrV) (c:Int),e= .returned (.tuple #[.agg #[.slice (some ⟨g,0,none⟩) lt.length ca,.slice oa lo.length co],.int .i64 c,.string ⟨#[]⟩])∧KSt w' B (.slice (some ⟨g,0,none⟩) lt.length ca) (.slice oa lo.length co) (lt.set t x) lo∧Below B w w'∧((c=4∧hasB X.own.n X.own.h s.cat=false∧x=X)∨(c=0∧hasB X.own.n X.own.h s.cat=true∧∃(a:Option Addr) (cc:Nat),x=⟨X.id,X.b1,X.c1,X.b2,X.c2,⟨a,(leftL X.own.h s.cat X.own.n).length,cc,nthI (leftL X.own.h s.cat X.own.n)⟩,X.made⟩)):=by
 obtain⟨th,kd,id_,to_,cat,dat,sb1,sc1,sb2,sc2⟩:=s;simp only at hk ⊢;subst hk;have XN:Hid (X.new B w∧(X.own.n≤X.own.k∧X.own.k≤maxLen)):=hid (by rw[hX];exact⟨st.tn _ (List.getElem_mem ht),st.tc _ (List.getElem_mem ht)⟩);have XA:Hid (X.at w):=hid XN.out.1.at;have on1:X.own.n≤1048576:=xs.2.2;obtain⟨CW,gl⟩:=st.cell7 ht;rw[←hX]at CW;have b3:Below w.heap.size w (((w.alloc (.cells #[.slice (some ⟨g,0,none⟩) lt.length ca,.slice oa lo.length co] 27)).alloc (.cells #[.int .i64 th,.int .i64 14,.int .i64 id_,.int .i64 to_,.int .i64 cat,.string dat,.int .i64 sb1,.slice sc1.a sc1.n sc1.k,.int .i64 sb2,.slice sc2.a sc2.n sc2.k] 46)).alloc (.cells #[.slice none 0 0,.slice none 0 0] 27)):=(((Below.refl _ w).alloc (Nat.le_refl _) _).alloc (by simp) _).alloc (by simp;omega) _;have CC:=CW.below gl b3;have q0:(((w.alloc (.cells #[.slice (some ⟨g,0,none⟩) lt.length ca,.slice oa lo.length co] 27)).alloc (.cells #[.int .i64 th,.int .i64 14,.int .i64 id_,.int .i64 to_,.int .i64 cat,.string dat,.int .i64 sb1,.slice sc1.a sc1.n sc1.k,.int .i64 sb2,.slice sc2.a sc2.n sc2.k] 46)).alloc (.cells #[.slice none 0 0,.slice none 0 0] 27)).cell? ⟨g,t*7,none⟩=some (.int .i64 X.id):=CC.c0;have q1:(((w.alloc (.cells #[.slice (some ⟨g,0,none⟩) lt.length ca,.slice oa lo.length co] 27)).alloc (.cells #[.int .i64 th,.int .i64 14,.int .i64 id_,.int .i64 to_,.int .i64 cat,.string dat,.int .i64 sb1,.slice sc1.a sc1.n sc1.k,.int .i64 sb2,.slice sc2.a sc2.n sc2.k] 46)).alloc (.cells #[.slice none 0 0,.slice none 0 0] 27)).cell? ⟨g,t*7+1,none⟩=some (.int .i64 X.b1):=CC.c1;have q2:(((w.alloc (.cells #[.slice (some ⟨g,0,none⟩) lt.length ca,.slice oa lo.length co] 27)).alloc (.cells #[.int .i64 th,.int .i64 14,.int .i64 id_,.int .i64 to_,.int .i64 cat,.string dat,.int .i64 sb1,.slice sc1.a sc1.n sc1.k,.int .i64 sb2,.slice sc2.a sc2.n sc2.k] 46)).alloc (.cells #[.slice none 0 0,.slice none 0 0] 27)).cell? ⟨g,t*7+2,none⟩=some (.slice X.c1.a X.c1.n X.c1.k):=CC.c2;have q3:(((w.alloc (.cells #[.slice (some ⟨g,0,none⟩) lt.length ca,.slice oa lo.length co] 27)).alloc (.cells #[.int .i64 th,.int .i64 14,.int .i64 id_,.int .i64 to_,.int .i64 cat,.string dat,.int .i64 sb1,.slice sc1.a sc1.n sc1.k,.int .i64 sb2,.slice sc2.a sc2.n sc2.k] 46)).alloc (.cells #[.slice none 0 0,.slice none 0 0] 27)).cell? ⟨g,t*7+3,none⟩=some (.int .i64 X.b2):=CC.c3;have q4:(((w.alloc (.cells #[.slice (some ⟨g,0,none⟩) lt.length ca,.slice oa lo.length co] 27)).alloc (.cells #[.int .i64 th,.int .i64 14,.int .i64 id_,.int .i64 to_,.int .i64 cat,.string dat,.int .i64 sb1,.slice sc1.a sc1.n sc1.k,.int .i64 sb2,.slice sc2.a sc2.n sc2.k] 46)).alloc (.cells #[.slice none 0 0,.slice none 0 0] 27)).cell? ⟨g,t*7+4,none⟩=some (.slice X.c2.a X.c2.n X.c2.k):=CC.c4;have q5:(((w.alloc (.cells #[.slice (some ⟨g,0,none⟩) lt.length ca,.slice oa lo.length co] 27)).alloc (.cells #[.int .i64 th,.int .i64 14,.int .i64 id_,.int .i64 to_,.int .i64 cat,.string dat,.int .i64 sb1,.slice sc1.a sc1.n sc1.k,.int .i64 sb2,.slice sc2.a sc2.n sc2.k] 46)).alloc (.cells #[.slice none 0 0,.slice none 0 0] 27)).cell? ⟨g,t*7+5,none⟩=some (.slice X.own.a X.own.n X.own.k):=CC.c5;have q6:(((w.alloc (.cells #[.slice (some ⟨g,0,none⟩) lt.length ca,.slice oa lo.length co] 27)).alloc (.cells #[.int .i64 th,.int .i64 14,.int .i64 id_,.int .i64 to_,.int .i64 cat,.string dat,.int .i64 sb1,.slice sc1.a sc1.n sc1.k,.int .i64 sb2,.slice sc2.a sc2.n sc2.k] 46)).alloc (.cells #[.slice none 0 0,.slice none 0 0] 27)).cell? ⟨g,t*7+6,none⟩=some (.int .i64 X.made):=CC.c6;have b0:Below w.heap.size w ((((w.alloc (.cells #[.slice (some ⟨g,0,none⟩) lt.length ca,.slice oa lo.length co] 27)).alloc (.cells #[.int .i64 th,.int .i64 14,.int .i64 id_,.int .i64 to_,.int .i64 cat,.string dat,.int .i64 sb1,.slice sc1.a sc1.n sc1.k,.int .i64 sb2,.slice sc2.a sc2.n sc2.k] 46)).alloc (.cells #[.slice none 0 0,.slice none 0 0] 27)).alloc (.cells #[.int .i64 X.id,.int .i64 X.b1,.slice X.c1.a X.c1.n X.c1.k,.int .i64 X.b2,.slice X.c2.a X.c2.n X.c2.k,.slice X.own.a X.own.n X.own.k,.int .i64 X.made] 75)):=((((Below.refl _ w).alloc (Nat.le_refl _) _).alloc (by simp) _).alloc (by simp;omega) _).alloc (by simp;omega) _;have A0:Blk ((((w.alloc (.cells #[.slice (some ⟨g,0,none⟩) lt.length ca,.slice oa lo.length co] 27)).alloc (.cells #[.int .i64 th,.int .i64 14,.int .i64 id_,.int .i64 to_,.int .i64 cat,.string dat,.int .i64 sb1,.slice sc1.a sc1.n sc1.k,.int .i64 sb2,.slice sc2.a sc2.n sc2.k] 46)).alloc (.cells #[.slice none 0 0,.slice none 0 0] 27)).alloc (.cells #[.int .i64 X.id,.int .i64 X.b1,.slice X.c1.a X.c1.n X.c1.k,.int .i64 X.b2,.slice X.c2.a X.c2.n X.c2.k,.slice X.own.a X.own.n X.own.k,.int .i64 X.made] 75)) w.heap.size (.cells #[.slice (some ⟨g,0,none⟩) lt.length ca,.slice oa lo.length co] 27):=(((Blk.new w _).alloc _).alloc _).alloc _;have P0:Blk ((((w.alloc (.cells #[.slice (some ⟨g,0,none⟩) lt.length ca,.slice oa lo.length co] 27)).alloc (.cells #[.int .i64 th,.int .i64 14,.int .i64 id_,.int .i64 to_,.int .i64 cat,.string dat,.int .i64 sb1,.slice sc1.a sc1.n sc1.k,.int .i64 sb2,.slice sc2.a sc2.n sc2.k] 46)).alloc (.cells #[.slice none 0 0,.slice none 0 0] 27)).alloc (.cells #[.int .i64 X.id,.int .i64 X.b1,.slice X.c1.a X.c1.n X.c1.k,.int .i64 X.b2,.slice X.c2.a X.c2.n X.c2.k,.slice X.own.a X.own.n X.own.k,.int .i64 X.made] 75)) (w.heap.size+1) (.cells #[.int .i64 th,.int .i64 14,.int .i64 id_,.int .i64 to_,.int .i64 cat,.string dat,.int .i64 sb1,.slice sc1.a sc1.n sc1.k,.int .i64 sb2,.slice sc2.a sc2.n sc2.k] 46):=by have:=((Blk.new (w.alloc (.cells #[.slice (some ⟨g,0,none⟩) lt.length ca,.slice oa lo.length co] 27)) (.cells #[.int .i64 th,.int .i64 14,.int .i64 id_,.int .i64 to_,.int .i64 cat,.string dat,.int .i64 sb1,.slice sc1.a sc1.n sc1.k,.int .i64 sb2,.slice sc2.a sc2.n sc2.k] 46)).alloc (.cells #[.slice none 0 0,.slice none 0 0] 27)).alloc (.cells #[.int .i64 X.id,.int .i64 X.b1,.slice X.c1.a X.c1.n X.c1.k,.int .i64 X.b2,.slice X.c2.a X.c2.n X.c2.k,.slice X.own.a X.own.n X.own.k,.int .i64 X.made] 75);simpa using this
 have R0:Blk ((((w.alloc (.cells #[.slice (some ⟨g,0,none⟩) lt.length ca,.slice oa lo.length co] 27)).alloc (.cells #[.int .i64 th,.int .i64 14,.int .i64 id_,.int .i64 to_,.int .i64 cat,.string dat,.int .i64 sb1,.slice sc1.a sc1.n sc1.k,.int .i64 sb2,.slice sc2.a sc2.n sc2.k] 46)).alloc (.cells #[.slice none 0 0,.slice none 0 0] 27)).alloc (.cells #[.int .i64 X.id,.int .i64 X.b1,.slice X.c1.a X.c1.n X.c1.k,.int .i64 X.b2,.slice X.c2.a X.c2.n X.c2.k,.slice X.own.a X.own.n X.own.k,.int .i64 X.made] 75)) (w.heap.size+1+1) (.cells #[.slice none 0 0,.slice none 0 0] 27):=by have:=(Blk.new ((w.alloc (.cells #[.slice (some ⟨g,0,none⟩) lt.length ca,.slice oa lo.length co] 27)).alloc (.cells #[.int .i64 th,.int .i64 14,.int .i64 id_,.int .i64 to_,.int .i64 cat,.string dat,.int .i64 sb1,.slice sc1.a sc1.n sc1.k,.int .i64 sb2,.slice sc2.a sc2.n sc2.k] 46)) (.cells #[.slice none 0 0,.slice none 0 0] 27)).alloc (.cells #[.int .i64 X.id,.int .i64 X.b1,.slice X.c1.a X.c1.n X.c1.k,.int .i64 X.b2,.slice X.c2.a X.c2.n X.c2.k,.slice X.own.a X.own.n X.own.k,.int .i64 X.made] 75);simpa using this
 have X0:Blk ((((w.alloc (.cells #[.slice (some ⟨g,0,none⟩) lt.length ca,.slice oa lo.length co] 27)).alloc (.cells #[.int .i64 th,.int .i64 14,.int .i64 id_,.int .i64 to_,.int .i64 cat,.string dat,.int .i64 sb1,.slice sc1.a sc1.n sc1.k,.int .i64 sb2,.slice sc2.a sc2.n sc2.k] 46)).alloc (.cells #[.slice none 0 0,.slice none 0 0] 27)).alloc (.cells #[.int .i64 X.id,.int .i64 X.b1,.slice X.c1.a X.c1.n X.c1.k,.int .i64 X.b2,.slice X.c2.a X.c2.n X.c2.k,.slice X.own.a X.own.n X.own.k,.int .i64 X.made] 75)) (w.heap.size+1+1+1) (.cells #[.int .i64 X.id,.int .i64 X.b1,.slice X.c1.a X.c1.n X.c1.k,.int .i64 X.b2,.slice X.c2.a X.c2.n X.c2.k,.slice X.own.a X.own.n X.own.k,.int .i64 X.made] 75):=by have:=Blk.new (((w.alloc (.cells #[.slice (some ⟨g,0,none⟩) lt.length ca,.slice oa lo.length co] 27)).alloc (.cells #[.int .i64 th,.int .i64 14,.int .i64 id_,.int .i64 to_,.int .i64 cat,.string dat,.int .i64 sb1,.slice sc1.a sc1.n sc1.k,.int .i64 sb2,.slice sc2.a sc2.n sc2.k] 46)).alloc (.cells #[.slice none 0 0,.slice none 0 0] 27)) (.cells #[.int .i64 X.id,.int .i64 X.b1,.slice X.c1.a X.c1.n X.c1.k,.int .i64 X.b2,.slice X.c2.a X.c2.n X.c2.k,.slice X.own.a X.own.n X.own.k,.int .i64 X.made] 75);simpa using this
 have HS:=hid (st.below b0);have HB:=hid b0;have HA:=hid A0;have HP:=hid P0;have HR:=hid R0;have HX:=hid X0;have EX:=hid hX;have i0:(0:Int)≤(t:Int):=by omega
 have i1:(t:Int)<(lt.length:Int):=by omega
 have F1:Hid (∀W,Below w.heap.size w W→Calls Tryz.prog 78 #[.slice X.own.a X.own.n X.own.k,.int .i64 cat] W fun e w'=>e= .returned (.bool (hasB X.own.n X.own.h cat))∧w'=W):=hid (fun W hW=>l1Has_any _ _ _ X.own.h cat W XA.out.2.2.1 ((XA.out.below hW).2.2.2));have OI:Hid (∀W,Below w.heap.size w W→IntsAt W X.own.a X.own.n X.own.h):=hid (fun W hW=>(XA.out.below hW).2.2.2);obtain⟨hb_,eh⟩:∃b,b=hasB X.own.n X.own.h cat:=⟨_,rfl⟩;rw[←eh]at F1;have EH:=hid eh;clear CC CW b3 b0 A0 P0 R0 X0 hX st eh;go_enter Tryz.func137,Tryz.ntmps137
 obtain⟨x0,x1⟩:=HA.out.two;obtain⟨s0,s1,s2,s3,s4,s5,s6,s7,s8,s9⟩:=HP.out.ten;obtain⟨y0,y1,y2,y3,y4,y5,y6⟩:=HX.out.seven;go_wp2_with fail
 have BX:Hid (∀W,Below ((((w.alloc (.cells #[.slice (some ⟨g,0,none⟩) lt.length ca,.slice oa lo.length co] 27)).alloc (.cells #[.int .i64 th,.int .i64 14,.int .i64 id_,.int .i64 to_,.int .i64 cat,.string dat,.int .i64 sb1,.slice sc1.a sc1.n sc1.k,.int .i64 sb2,.slice sc2.a sc2.n sc2.k] 46)).alloc (.cells #[.slice none 0 0,.slice none 0 0] 27)).alloc (.cells #[.int .i64 X.id,.int .i64 X.b1,.slice X.c1.a X.c1.n X.c1.k,.int .i64 X.b2,.slice X.c2.a X.c2.n X.c2.k,.slice X.own.a X.own.n X.own.k,.int .i64 X.made] 75)).heap.size ((((w.alloc (.cells #[.slice (some ⟨g,0,none⟩) lt.length ca,.slice oa lo.length co] 27)).alloc (.cells #[.int .i64 th,.int .i64 14,.int .i64 id_,.int .i64 to_,.int .i64 cat,.string dat,.int .i64 sb1,.slice sc1.a sc1.n sc1.k,.int .i64 sb2,.slice sc2.a sc2.n sc2.k] 46)).alloc (.cells #[.slice none 0 0,.slice none 0 0] 27)).alloc (.cells #[.int .i64 X.id,.int .i64 X.b1,.slice X.c1.a X.c1.n X.c1.k,.int .i64 X.b2,.slice X.c2.a X.c2.n X.c2.k,.slice X.own.a X.own.n X.own.k,.int .i64 X.made] 75)) W→Blk W w.heap.size (.cells #[.slice (some ⟨g,0,none⟩) lt.length ca,.slice oa lo.length co] 27)∧Blk W (w.heap.size+1) (.cells #[.int .i64 th,.int .i64 14,.int .i64 id_,.int .i64 to_,.int .i64 cat,.string dat,.int .i64 sb1,.slice sc1.a sc1.n sc1.k,.int .i64 sb2,.slice sc2.a sc2.n sc2.k] 46)∧Blk W (w.heap.size+1+1) (.cells #[.slice none 0 0,.slice none 0 0] 27)∧Blk W (w.heap.size+1+1+1) (.cells #[.int .i64 X.id,.int .i64 X.b1,.slice X.c1.a X.c1.n X.c1.k,.int .i64 X.b2,.slice X.c2.a X.c2.n X.c2.k,.slice X.own.a X.own.n X.own.k,.int .i64 X.made] 75)∧KSt W B (.slice (some ⟨g,0,none⟩) lt.length ca) (.slice oa lo.length co) lt lo):=hid (fun W hW=>⟨HA.out.below hW,HP.out.below hW,HR.out.below hW,HX.out.below hW,HS.out.below hW⟩);have LW:Hid (∀W,Below ((((w.alloc (.cells #[.slice (some ⟨g,0,none⟩) lt.length ca,.slice oa lo.length co] 27)).alloc (.cells #[.int .i64 th,.int .i64 14,.int .i64 id_,.int .i64 to_,.int .i64 cat,.string dat,.int .i64 sb1,.slice sc1.a sc1.n sc1.k,.int .i64 sb2,.slice sc2.a sc2.n sc2.k] 46)).alloc (.cells #[.slice none 0 0,.slice none 0 0] 27)).alloc (.cells #[.int .i64 X.id,.int .i64 X.b1,.slice X.c1.a X.c1.n X.c1.k,.int .i64 X.b2,.slice X.c2.a X.c2.n X.c2.k,.slice X.own.a X.own.n X.own.k,.int .i64 X.made] 75)).heap.size ((((w.alloc (.cells #[.slice (some ⟨g,0,none⟩) lt.length ca,.slice oa lo.length co] 27)).alloc (.cells #[.int .i64 th,.int .i64 14,.int .i64 id_,.int .i64 to_,.int .i64 cat,.string dat,.int .i64 sb1,.slice sc1.a sc1.n sc1.k,.int .i64 sb2,.slice sc2.a sc2.n sc2.k] 46)).alloc (.cells #[.slice none 0 0,.slice none 0 0] 27)).alloc (.cells #[.int .i64 X.id,.int .i64 X.b1,.slice X.c1.a X.c1.n X.c1.k,.int .i64 X.b2,.slice X.c2.a X.c2.n X.c2.k,.slice X.own.a X.own.n X.own.k,.int .i64 X.made] 75)) W→Below w.heap.size w W):=hid (fun W hW=>then_ HB.out hW);have LB:Hid (∀W,Below ((((w.alloc (.cells #[.slice (some ⟨g,0,none⟩) lt.length ca,.slice oa lo.length co] 27)).alloc (.cells #[.int .i64 th,.int .i64 14,.int .i64 id_,.int .i64 to_,.int .i64 cat,.string dat,.int .i64 sb1,.slice sc1.a sc1.n sc1.k,.int .i64 sb2,.slice sc2.a sc2.n sc2.k] 46)).alloc (.cells #[.slice none 0 0,.slice none 0 0] 27)).alloc (.cells #[.int .i64 X.id,.int .i64 X.b1,.slice X.c1.a X.c1.n X.c1.k,.int .i64 X.b2,.slice X.c2.a X.c2.n X.c2.k,.slice X.own.a X.own.n X.own.k,.int .i64 X.made] 75)).heap.size ((((w.alloc (.cells #[.slice (some ⟨g,0,none⟩) lt.length ca,.slice oa lo.length co] 27)).alloc (.cells #[.int .i64 th,.int .i64 14,.int .i64 id_,.int .i64 to_,.int .i64 cat,.string dat,.int .i64 sb1,.slice sc1.a sc1.n sc1.k,.int .i64 sb2,.slice sc2.a sc2.n sc2.k] 46)).alloc (.cells #[.slice none 0 0,.slice none 0 0] 27)).alloc (.cells #[.int .i64 X.id,.int .i64 X.b1,.slice X.c1.a X.c1.n X.c1.k,.int .i64 X.b2,.slice X.c2.a X.c2.n X.c2.k,.slice X.own.a X.own.n X.own.k,.int .i64 X.made] 75)) W→Below B w W):=hid (fun W hW=>(then_ HB.out hW).mono hB);have V0:=hid (Below.refl ((((w.alloc (.cells #[.slice (some ⟨g,0,none⟩) lt.length ca,.slice oa lo.length co] 27)).alloc (.cells #[.int .i64 th,.int .i64 14,.int .i64 id_,.int .i64 to_,.int .i64 cat,.string dat,.int .i64 sb1,.slice sc1.a sc1.n sc1.k,.int .i64 sb2,.slice sc2.a sc2.n sc2.k] 46)).alloc (.cells #[.slice none 0 0,.slice none 0 0] 27)).alloc (.cells #[.int .i64 X.id,.int .i64 X.b1,.slice X.c1.a X.c1.n X.c1.k,.int .i64 X.b2,.slice X.c2.a X.c2.n X.c2.k,.slice X.own.a X.own.n X.own.k,.int .i64 X.made] 75)).heap.size ((((w.alloc (.cells #[.slice (some ⟨g,0,none⟩) lt.length ca,.slice oa lo.length co] 27)).alloc (.cells #[.int .i64 th,.int .i64 14,.int .i64 id_,.int .i64 to_,.int .i64 cat,.string dat,.int .i64 sb1,.slice sc1.a sc1.n sc1.k,.int .i64 sb2,.slice sc2.a sc2.n sc2.k] 46)).alloc (.cells #[.slice none 0 0,.slice none 0 0] 27)).alloc (.cells #[.int .i64 X.id,.int .i64 X.b1,.slice X.c1.a X.c1.n X.c1.k,.int .i64 X.b2,.slice X.c2.a X.c2.n X.c2.k,.slice X.own.a X.own.n X.own.k,.int .i64 X.made] 75)));clear x0 x1 s0 s1 s2 s3 s4 s5 s6 s7 s8 s9 y0 y1 y2 y3 y4 y5 y6 q0 q1 q2 q3 q4 q5 q6 HA HP HR HX HS;generalize ((((w.alloc (.cells #[.slice (some ⟨g,0,none⟩) lt.length ca,.slice oa lo.length co] 27)).alloc (.cells #[.int .i64 th,.int .i64 14,.int .i64 id_,.int .i64 to_,.int .i64 cat,.string dat,.int .i64 sb1,.slice sc1.a sc1.n sc1.k,.int .i64 sb2,.slice sc2.a sc2.n sc2.k] 46)).alloc (.cells #[.slice none 0 0,.slice none 0 0] 27)).alloc (.cells #[.int .i64 X.id,.int .i64 X.b1,.slice X.c1.a X.c1.n X.c1.k,.int .i64 X.b2,.slice X.c2.a X.c2.n X.c2.k,.slice X.own.a X.own.n X.own.k,.int .i64 X.made] 75))=V at *;refine(F1.out _ (LW.out _ V0.out)).mono ?_;rintro e w1 ⟨rfl,rfl⟩;obtain⟨x0,x1⟩:=(BX.out _ V0.out).1.two;obtain⟨s0,s1,s2,s3,s4,s5,s6,s7,s8,s9⟩:=(BX.out _ V0.out).2.1.ten;obtain⟨r0,r1⟩:=(BX.out _ V0.out).2.2.1.two;have rf:=(BX.out _ V0.out).2.2.1.warm;obtain⟨y0,y1,y2,y3,y4,y5,y6⟩:=(BX.out _ V0.out).2.2.2.1.seven;cases hb_ with
 |false=>
  go_wp2;have RB:=hid (BX.out _ V0.out).2.2.1;have KB:=hid (BX.out _ V0.out).2.2.2.2;refine bodyPost_ret (self_results _ _ (w.heap.size+1+1) 6 _ _ _ _ Tryz.results137 ((RB.out.setAt (i:=0) _).setAt (i:=1) _) rfl rfl rfl) rfl ⟨X,4,rfl,?_,?_,.inl ⟨rfl,EH.out.symm,rfl⟩⟩
  ·rw[EX.out,set_same];exact(KB.out.set RB.out (.inl rfl) _).set (RB.out.setAt (i:=0) _) (.inl rfl) _
  ·exact((LB.out _ V0.out).setCell (by dsimp only;omega) _).setCell (by dsimp only;omega) _
 |true=>
 have E0:=hid (OwnI.made w1 w1.heap.size (Nat.le_refl _));have BE:=hid ((Below.refl _ w1).alloc (Nat.le_refl _) (.cells #[] 2));go_wp2;clear x0 x1 s0 s1 s2 s3 s4 s5 s6 s7 s8 s9 r0 r1 rf y0 y1 y2 y3 y4 y5 y6;go_loopw [11,12] (fun v i wr=>∃(j:Nat) (la:Option Addr) (lc:Nat),j≤X.own.n∧i= .int .i64 j∧v= .slice la (leftL X.own.h cat j).length lc∧OwnI wr w1.heap.size (.slice la (leftL X.own.h cat j).length lc) (leftL X.own.h cat j)∧Below w1.heap.size w1 wr) (fun _ i _=>X.own.n-(intOf i).toNat)
 case atStart=>exact⟨0,_,0,Nat.zero_le _,rfl,rfl,E0.out,BE.out⟩
 case round=>
  clear E0 BE;obtain⟨j,la,lc,hj,rfl,rfl,ow,be⟩:=hrel;have OW:=hid ow;have BB:=hid be;have ll:=leftL_len X.own.h cat j;clear ow be;obtain⟨x0,x1⟩:=(BX.out _ BB.out).1.two;obtain⟨s0,s1,s2,s3,s4,s5,s6,s7,s8,s9⟩:=(BX.out _ BB.out).2.1.ten;obtain⟨r0,r1⟩:=(BX.out _ BB.out).2.2.1.two;have rf:=(BX.out _ BB.out).2.2.1.warm;obtain⟨y0,y1,y2,y3,y4,y5,y6⟩:=(BX.out _ BB.out).2.2.2.1.seven;by_cases hlt:j<X.own.n
  ·have i2:(j:Int)<(X.own.n:Int):=(by omega);have i3:(0:Int)≤(j:Int):=(by omega);obtain⟨b,off,ea,hbl,hc⟩:=OI.out _ (LW.out _ BB.out) (by omega);have c0:=hc j hlt;have EA:=hid ea;rw[ea]at y5;have HC:Hid (∀W,Below w1.heap.size w1 W→W.cell? ⟨b,off+j,none⟩=some (.int .i64 (X.own.h j))):=hid (fun W hW=>by
    obtain⟨b',off',ea',_,hc'⟩:=OI.out _ (LW.out _ hW) (by omega);rw[EA.out]at ea';cases ea';exact hc' j hlt)
   clear hc ea;have HLT:=hid hlt;by_cases he:X.own.h j=cat
   ·have EE:=hid he;have hd:(X.own.h j==cat)=true:=(by simpa using he);have hd':decide (X.own.h j=cat)=true:=decide_eq_true he;clear he;go_wp2_with fail
    go_quiet(fail)
    go_wp2;go_roundw;case rel=>exact⟨j+1,la,lc,by have:=HLT.out;omega,by go_num,by rw[leftL_skip EE.out],by rw[leftL_skip EE.out];exact OW.out.below' (below_drewN (Below.refl _ wr) _),BB.out.trans ((below_drewN (Below.refl _ wr) _).mono BB.out.size)⟩
    case measure=>have:=HLT.out;simp[intOf];omega
   ·have EE:=hid he;have hd:(X.own.h j==cat)=false:=(by simpa using he);have hd':decide (X.own.h j=cat)=false:=decide_eq_false he;clear he;go_wp2_with fail
    go_quiet(fail)
    have bn:Below wr.heap.size wr (wr.drewN nq):=below_drewN (Below.refl _ wr) nq;have OWn:=hid (OW.out.below' bn);have BBn:=hid (BB.out.trans (bn.mono BB.out.size));clear x0 x1 s0 s1 s2 s3 s4 s5 s6 s7 s8 s9 r0 r1 rf y0 y1 y2 y3 y4 y5 y6;clear bn OW BB c0;generalize wr.drewN nq=W at *;obtain⟨x0,x1⟩:=(BX.out _ BBn.out).1.two;obtain⟨s0,s1,s2,s3,s4,s5,s6,s7,s8,s9⟩:=(BX.out _ BBn.out).2.1.ten;obtain⟨r0,r1⟩:=(BX.out _ BBn.out).2.2.1.two;have rf:=(BX.out _ BBn.out).2.2.1.warm;obtain⟨y0,y1,y2,y3,y4,y5,y6⟩:=(BX.out _ BBn.out).2.2.2.1.seven;rw[EA.out]at y5;have c0:=HC.out _ BBn.out;have QO:=hid (OWn.out.alloc (.cells #[.int .i64 (X.own.h j)] 2));have QL:=hid (NumL.one (w:=W) (X.own.h j));have sQ:w1.heap.size≤(W.alloc (.cells #[.int .i64 (X.own.h j)] 2)).heap.size:=(by have:=BBn.out.size;simp;omega);have bQ:=hid (BBn.out.alloc BBn.out.size (.cells #[.int .i64 (X.own.h j)] 2));have ER:=hid (leftL_more EE.out);have lR:(leftL X.own.h cat (j+1)).length≤4194304:=(by have:=leftL_len X.own.h cat (j+1);omega);go_wp2_with(at_builtin;refine wpList_append_intsR _ rfl _ _ rfl w1.heap.size (.slice la (leftL X.own.h cat j).length lc) (leftL X.own.h cat j) rfl QO.out _ 1 1 [X.own.h j] rfl rfl QL.out (leftL X.own.h cat (j+1)) ER.out lR sQ ?_;intro a7 c7 w7 o7 g7 h7;have O7:=hid o7;have B7:Hid (Below w1.heap.size w1 w7):=hid (bQ.out.trans (below_grown g7 sQ (fun j e=>(World.ownsRow.lt QO.out j e).1)));clear o7 g7 h7)
    go_roundw;case rel=>exact⟨j+1,a7,c7,by have:=HLT.out;omega,by go_num,rfl,O7.out,B7.out⟩
    case measure=>have:=HLT.out;simp[intOf];omega
  ·obtain rfl:j=X.own.n:=by omega
   have i2:¬(X.own.n:Int)<(X.own.n:Int):=(by omega);have ND:Hid (IntL.new B wr ⟨la,(leftL X.own.h cat X.own.n).length,lc,nthI (leftL X.own.h cat X.own.n)⟩):=hid (((OW.out.newL (by omega)).low (Nat.le_trans hB HB.out.size)));have CP:=hid (own_cap OW.out);have KB:=hid (BX.out _ BB.out).2.2.2.2;have CC:=(KB.out.cell7 ht).1;have c5:=CC.c5;have GF:=hid (KB.out.setOwn (d:=⟨la,(leftL X.own.h cat X.own.n).length,lc,nthI (leftL X.own.h cat X.own.n)⟩) ht EX.out ND.out CP.out);have gf:=GF.out.2.1.choose_spec.warm;have ng1:¬g=w.heap.size:=(by omega);have ng2:¬g=w.heap.size+1+1:=(by omega);have ng3:¬w.heap.size=g:=(by omega);have ng4:¬w.heap.size+1+1=g:=(by omega);have A4:=hid ((BX.out _ BB.out).1.other (Q:=g) ng1 (i:=t*7+5) (.slice la (leftL X.own.h cat X.own.n).length lc));have R4:=hid ((BX.out _ BB.out).2.2.1.other (Q:=g) ng2 (i:=t*7+5) (.slice la (leftL X.own.h cat X.own.n).length lc));have L4:Hid (Below B w (wr.setCell ⟨g,t*7+5,none⟩ (.slice la (leftL X.own.h cat X.own.n).length lc))):=hid ((LB.out _ BB.out).setCell (by dsimp only;exact GF.out.2.2) _);clear CC;go_wp2;refine bodyPost_ret (self_results _ _ (w.heap.size+1+1) 6 _ _ _ _ Tryz.results137 ((R4.out.setAt (i:=0) _).setAt (i:=1) _) rfl rfl rfl) rfl ⟨_,0,rfl,(GF.out.1.set R4.out (.inl rfl) _).set (R4.out.setAt (i:=0) _) (.inl rfl) _,(L4.out.setCell (by dsimp only;omega) _).setCell (by dsimp only;omega) _,.inr ⟨rfl,EH.out.symm,la,lc,rfl⟩⟩
def putAt(L:List Int)(x:Int):Nat:=L.findIdx (fun y=> !decide (y<x))
def putL(L:List Int)(x:Int):List Int:=if L[putAt L x]? =some x then L else L.take (putAt L x)++[x]++L.drop (putAt L x)
theorem putAt_eq{L:List Int}{x:Int}{k:Nat}(hk:k≤L.length)(h1:∀j,j<k→nthI L j<x)(h2:k=L.length∨¬nthI L k<x):putAt L x=k:=by
 unfold putAt;by_cases e:k<L.length
 ·rw[List.findIdx_eq e];have h3:¬nthI L k<x:=by
   rcases h2 with h2|h2
   ·omega
   ·exact h2
  refine⟨?_,fun j hj=>?_⟩
  ·simp[nthI,e]at h3;simpa using h3
  ·have:=h1 j hj;have hj':j<L.length:=(by omega);simp[nthI,hj']at this;simpa using this
 ·have ek:k=L.length:=by omega
  subst ek;rw[List.findIdx_eq_length];intro y hy;obtain⟨j,hj,rfl⟩:=List.getElem_of_mem hy;have:=h1 j hj;simp[nthI,hj]at this;simpa using this
theorem l2Put_any(A:Addr)(cap:Nat)(L:List Int)(x:Int)(w:World)(hn:L.length≤1048576)(hcap:L.length≤cap)(hcm:cap≤maxLen)(hc:NumL w (some A) L):
 Calls Tryz.prog 167 #[.slice (some A) L.length cap,.int .i64 x] w fun e w'=>∃va vc,e= .returned (.slice va (putL L x).length vc)∧OwnI w' w.heap.size (.slice va (putL L x).length vc) (putL L x)∧Below w.heap.size w w':=by
 have hi:=hc.ints;unfold maxLen at hcm;go_enter Tryz.func167,Tryz.ntmps167
 go_wp2;go_loop [5] (fun i=>∃k:Nat,k≤L.length∧i= .int .i64 k∧(∀j,j<k→nthI L j<x)) (fun i=>L.length-(intOf i).toNat)
 case atStart=>exact⟨0,Nat.zero_le _,rfl,fun j hj=>by omega⟩
 case round=>
  obtain⟨k,hk,rfl,hall⟩:=hrel;have HA:Hid (∀j,j<k→nthI L j<x):=hall;clear hall;have HC:Hid (NumL w (some A) L):=hc;by_cases hlt':k<L.length
  ·obtain⟨b,off,eA,hlt,hcc⟩:=hi (by omega);obtain rfl:A=⟨b,off,none⟩:=by simpa using eA
   have g1:=hcc k hlt';have hki:(k:Int)<(L.length:Int):=(by omega);clear hcc hc hi;by_cases t:nthI L k<x
   ·go_wp2;go_round;case rel=>
     refine⟨k+1,by omega,by go_num,fun j hj=>?_⟩;by_cases e:j=k
     ·subst e;exact t
     ·exact HA.out j (by omega)
    case measure=>simp[intOf];omega
   ·have ek:putAt L x=k:=putAt_eq (by omega) HA.out (.inr t);obtain⟨T,hT⟩:∃T,T=L.take k:=⟨_,rfl⟩;obtain⟨D,hD⟩:∃D,D=L.drop k:=⟨_,rfl⟩;have lT:Hid (T.length=k):=(by show _=_;rw[hT,List.length_take];omega);have lD:Hid (D.length=L.length-k):=(by show _=_;rw[hD,List.length_drop]);obtain⟨R2,hR2⟩:∃R2,R2=T++[x]:=⟨_,rfl⟩;obtain⟨R3,hR3⟩:∃R3,R3=R2++D:=⟨_,rfl⟩;have lR3:Hid (R3.length=L.length+1):=(by show _=_;rw[hR3,hR2];simp[lT.out,lD.out];omega);have lR2:Hid (R2.length=k+1):=(by show _=_;rw[hR2];simp[lT.out]);have HT:Hid (T=L.take k):=hT;have HD:Hid (D=L.drop k):=hD;have HR2:Hid (R2=T++[x]):=hR2;have HR3:Hid (R3=R2++D):=hR3;have HK:Hid (putAt L x=k):=ek;have ID:NumL w (some ⟨b,off+k,none⟩) D:=(by rw[hD];exact HC.out.drop k);clear hT hD hR2 hR3 ek;have E0:Below w.heap.size w (w.alloc (.cells #[] 2)):=(Below.refl _ w).alloc (Nat.le_refl _) _;have O0:=OwnI.made w w.heap.size (Nat.le_refl _);have s0:(w.alloc (.cells #[] 2)).heap.size=w.heap.size+1:=(by simp);have ki:(k:Int)≤(L.length:Int):=(by omega);have kc:(k:Int)≤(cap:Int):=(by omega);cases t2:(nthI L k==x)with
    |true=>
     have HX:Hid (L[k]? =some x):=(by show _=_;have:=beq_iff_eq.1 t2;simp[nthI,hlt']at this;simp[hlt',this]);go_wp2_with(at_builtin;refine wpList_append_intsR _ rfl _ _ rfl w.heap.size _ [] rfl O0 _ _ _ L rfl rfl (HC.out.below E0) L (by simp) (by omega) (by simp) ?_;intro a' c' w' hown' hgrow' hat')
     go_ret;have e:putL L x=L:=(by unfold putL;rw[HK.out,HX.out];simp);rw[e];exact⟨_,_,rfl,hown',E0.grown hgrow' (by simp) (fun j e=>by cases e;exact Nat.le_refl _)⟩
    |false=>
     have HX:Hid (¬L[k]? =some x):=(by show ¬_;have:=beq_eq_false_iff_ne.1 t2;simp[nthI,hlt']at this;simp[hlt',this]);go_wp2_with(first
      |(at_builtin;have hq:=hown2;clear hq;refine wpList_append_intsR _ rfl _ _ rfl w.heap.size (.slice a2 R2.length c2) R2 rfl hown2 _ _ _ D rfl lD.out (ID.below E2) R3 HR3.out (by rw[lR3.out];omega) E2.size ?_;intro a3 c3 w3 hown3 hgrow3 hat3)
      |(at_builtin;have hq:=hown1;clear hq;refine wpList_append_intsR _ rfl _ _ rfl w.heap.size (.slice a1 T.length c1) T rfl (hown1.alloc _) _ _ _ [x] rfl rfl (NumL.one x) R2 HR2.out (by rw[lR2.out];omega) (Nat.le_trans E1.size (by simp)) ?_;intro a2 c2 w2 hown2 hgrow2 hat2;have E2:Below w.heap.size w w2:=(E1.alloc E1.size _).grown hgrow2 (Nat.le_trans E1.size (by simp)) (fun j e=>(World.ownsRow.lt hown1 j e).1))
      |(at_builtin;refine wpList_append_intsR _ rfl _ _ rfl w.heap.size (.slice (some ⟨w.heap.size,0,none⟩) 0 0) [] rfl O0 _ _ _ T rfl lT.out ((HT.out▸HC.out.take k).below E0) T (by simp) (by rw[lT.out];omega) (by simp) ?_;intro a1 c1 w1 hown1 hgrow1 hat1;have E1:Below w.heap.size w w1:=E0.grown hgrow1 (by simp) (fun j e=>by cases e;exact Nat.le_refl _)))
     go_ret;have e:putL L x=R3:=by
      unfold putL;rw[HK.out,if_neg HX.out,HR3.out,HR2.out,HT.out,HD.out]
     rw[e];exact⟨_,_,rfl,hown3,E2.grown hgrow3 E2.size (fun j e=>(World.ownsRow.lt hown2 j e).1)⟩
  ·have hkL:k=L.length:=(by omega);have ek:putAt L x=k:=putAt_eq (by omega) HA.out (.inl hkL);have HK:Hid (putAt L x=k):=ek;have HKL:Hid (k=L.length):=hkL;obtain⟨R2,hR2⟩:∃R2,R2=L++[x]:=⟨_,rfl⟩;have HR2:Hid (R2=L++[x]):=hR2;have lR2:Hid (R2.length=L.length+1):=(by show _=_;rw[hR2];simp);have nk:¬(k:Int)<(L.length:Int):=(by omega);clear hR2 ek hkL hc hi;have E0:Below w.heap.size w (w.alloc (.cells #[] 2)):=(Below.refl _ w).alloc (Nat.le_refl _) _;have O0:=OwnI.made w w.heap.size (Nat.le_refl _);have kc:(k:Int)≤(cap:Int):=(by omega);have fin:Hid (putL L x=R2):=by
    show _=_;unfold putL;rw[HK.out,if_neg (by rw[List.getElem?_eq_none (by have:=HKL.out;omega)];simp),HR2.out,HKL.out];simp
   go_wp2_with(first
    |(at_builtin;have hq:=hown2;clear hq;refine wpList_append_intsR _ rfl _ _ rfl w.heap.size (.slice a2 R2.length c2) R2 rfl hown2 _ _ _ [] rfl (by have:=HKL.out;simp;omega) (NumL.none _ _) R2 (by simp) (by rw[lR2.out];omega) E2.size ?_;intro a3 c3 w3 hown3 hgrow3 hat3)
    |(at_builtin;have hq:=hown1;clear hq;refine wpList_append_intsR _ rfl _ _ rfl w.heap.size (.slice a1 L.length c1) L rfl (hown1.alloc _) _ _ _ [x] rfl rfl (NumL.one x) R2 HR2.out (by rw[lR2.out];omega) (Nat.le_trans E1.size (by simp)) ?_;intro a2 c2 w2 hown2 hgrow2 hat2;have E2:Below w.heap.size w w2:=(E1.alloc E1.size _).grown hgrow2 (Nat.le_trans E1.size (by simp)) (fun j e=>(World.ownsRow.lt hown1 j e).1))
    |(at_builtin;refine wpList_append_intsR _ rfl _ _ rfl w.heap.size (.slice (some ⟨w.heap.size,0,none⟩) 0 0) [] rfl O0 _ _ _ L rfl HKL.out.symm (HC.out.below E0) L (by simp) (by omega) (by simp) ?_;intro a1 c1 w1 hown1 hgrow1 hat1;have E1:Below w.heap.size w w1:=E0.grown hgrow1 (by simp) (fun j e=>by cases e;exact Nat.le_refl _)))
   all_goals
    go_ret;rw[fin.out];exact⟨_,_,rfl,hown3,E2.grown hgrow3 E2.size (fun j e=>(World.ownsRow.lt hown2 j e).1)⟩
theorem l2Put_none(cap:Nat)(x:Int)(w:World):
 Calls Tryz.prog 167 #[.slice none 0 cap,.int .i64 x] w fun e w'=>∃va vc,e= .returned (.slice va 1 vc)∧OwnI w' w.heap.size (.slice va 1 vc) [x]∧Below w.heap.size w w':=by
 have E0:Below w.heap.size w (w.alloc (.cells #[] 2)):=(Below.refl _ w).alloc (Nat.le_refl _) _;have O0:=OwnI.made w w.heap.size (Nat.le_refl _);go_enter Tryz.func167,Tryz.ntmps167
 go_wp2;go_loopw [5] (fun i wr=>i= .int .i64 0∧wr=w) (fun i _=>(intOf i).toNat)
 case atStart=>exact⟨rfl,rfl⟩
 case round=>
  obtain⟨rfl,rfl⟩:=hrel;go_wp2_with(first
   |(at_builtin;have hq:=hown2;clear hq;refine wpList_append_intsR _ rfl _ _ rfl wr.heap.size (.slice a2 1 c2) [x] rfl hown2 _ _ _ [] rfl rfl (NumL.none _ _) [x] rfl (by simp) E2.size ?_;intro a3 c3 w3 hown3 hgrow3 hat3)
   |(at_builtin;have hq:=hown1;clear hq;refine wpList_append_intsR _ rfl _ _ rfl wr.heap.size (.slice a1 0 c1) [] rfl (hown1.alloc _) _ _ _ [x] rfl rfl (NumL.one x) [x] rfl (by simp) (Nat.le_trans E1.size (by simp)) ?_;intro a2 c2 w2 hown2 hgrow2 hat2;have E2:Below wr.heap.size wr w2:=(E1.alloc E1.size _).grown hgrow2 (Nat.le_trans E1.size (by simp)) (fun j e=>(World.ownsRow.lt hown1 j e).1))
   |(at_builtin;refine wpList_append_intsR _ rfl _ _ rfl wr.heap.size (.slice (some ⟨wr.heap.size,0,none⟩) 0 0) [] rfl O0 _ _ _ [] rfl rfl (NumL.none _ _) [] rfl (by simp) (by simp) ?_;intro a1 c1 w1 hown1 hgrow1 hat1;have E1:Below wr.heap.size wr w1:=E0.grown hgrow1 (by simp) (fun j e=>by cases e;exact Nat.le_refl _)))
  go_ret;exact⟨_,_,rfl,hown3,E2.grown hgrow3 E2.size (fun j e=>(World.ownsRow.lt hown2 j e).1)⟩
theorem l2Put_all(c:IntL)(x:Int)(w:World)(hc:c.at w)(hn:c.n≤1048576)(hcap:c.n≤c.k∧c.k≤maxLen):
 Calls Tryz.prog 167 #[.slice c.a c.n c.k,.int .i64 x] w fun e w'=>∃va vc,e= .returned (.slice va (putL ((List.range c.n).map c.h) x).length vc)∧OwnI w' w.heap.size (.slice va (putL ((List.range c.n).map c.h) x).length vc) (putL ((List.range c.n).map c.h) x)∧Below w.heap.size w w':=by
 have el:((List.range c.n).map c.h).length=c.n:=by simp
 cases ha:c.a with
 |some A=>
  have hi:=hc.2.intL;rw[ha]at hi;have h:=l2Put_any A c.k ((List.range c.n).map c.h) x w (by rw[el];exact hn) (by rw[el];exact hcap.1) hcap.2 hi;rw[el]at h;exact h
 |none=>
  have h0:c.n=0:=by
   by_cases e:0<c.n
   ·obtain⟨b,off,e',_⟩:=hc.2 e;rw[ha]at e';cases e'
   ·omega
  rw[h0];exact l2Put_none c.k x w
def decL(n:Nat):List UInt8:=if h:n<10 then[UInt8.ofNat (48+n)]else decL (n/10)++[UInt8.ofNat (48+n%10)]
termination_by n
decreasing_by omega
theorem decL_small{n:Nat}(h:n<10):decL n=[UInt8.ofNat (48+n)]:=by rw[decL,dif_pos h]
theorem decL_big{n:Nat}(h:¬n<10):decL n=decL (n/10)++[UInt8.ofNat (48+n%10)]:=by rw[decL,dif_neg h]
def catText(c:Int×Int):List UInt8:=44::(decL c.1.toNat++58::decL c.2.toNat)
def txt(base:Int)(cats:List (Int×Int)):List UInt8:=decL base.toNat++(cats.map catText).flatten
theorem txt_snoc(base:Int)(cats:List (Int×Int))(c:Int×Int):txt base (cats++[c])=txt base cats++catText c:=by simp[txt]

theorem bytes_app(a l:List UInt8):((⟨a.toArray⟩:ByteArray)++(⟨l.toArray⟩:ByteArray))=⟨(a++l).toArray⟩:=by
 apply ByteArray.ext;apply Array.ext';simp
theorem decL_len(n:Nat):(decL n).length≤n+1:=by
 induction n using Nat.strongRecOn with
 |_ n ih=>
  by_cases h:n<10
  ·rw[decL_small h];simp
  ·rw[decL_big h,List.length_append];have:=ih (n/10) (by omega);simp;omega
theorem l1Dec_any(n:Nat)(w:World)(hn:n≤10000000000):
 Calls Tryz.prog 42 #[.int .i64 n] w fun e w'=>e= .returned (.string ⟨(decL n).toArray⟩)∧Below w.heap.size w w':=by
 have hlen:=decL_len n;go_enter Tryz.func42,Tryz.ntmps42
 go_wp2;go_loopw [0,3] (fun x s wr=>∃(k:Nat) (l:List UInt8),k≤n∧x= .int .i64 k∧s= .string ⟨l.toArray⟩∧decL n=decL k++l∧Below w.heap.size w wr) (fun x _ _=>(intOf x).toNat)
 case atStart=>exact⟨n,[],Nat.le_refl _,rfl,rfl,by simp,Below.refl _ _⟩
 case round=>
  obtain⟨k,l,hk,rfl,rfl,hd,hB⟩:=hrel;have hl:l.length≤10000000001:=by
   have:=congrArg List.length hd;rw[List.length_append]at this;omega
  have HD:Hid (decL n=decL k++l):=hd;clear hd;by_cases h10:k<10
  ·have h10':¬(10:Int)≤(k:Int):=(by omega);obtain⟨b,hb⟩:∃b,b=UInt8.ofNat (48+(k:Int)).toNat:=⟨_,rfl⟩;have ob:=fun(w:World)=>one_byte w (48+(k:Int)) (by omega) (by omega);rw[←hb]at ob;have HB:Hid (b=UInt8.ofNat (48+k)):=hb;clear hb;go_wp2;go_ret;refine⟨?_,hB.alloc hB.size _⟩;rw[bytes_cons,HD.out,decL_small h10,←HB.out];rfl
  ·have h10':(10:Int)≤(k:Int):=(by omega);obtain⟨b,hb⟩:∃b,b=UInt8.ofNat (48+(k:Int)%10).toNat:=⟨_,rfl⟩;have ob:=fun(w:World)=>one_byte w (48+(k:Int)%10) (by omega) (by omega);rw[←hb]at ob;have HB:Hid (b=UInt8.ofNat (48+k%10)):=hb;clear hb;go_wp2;go_roundw;case rel=>
    refine⟨k/10,b::l,by omega,by go_num,by rw[bytes_cons],?_,hB.alloc hB.size _⟩;rw[HD.out,decL_big h10,←HB.out,List.append_assoc];rfl
   case measure=>simp[intOf];omega
theorem sLabOk_v(b:Int)(c:CatL)(w:World)(hc:c.at w):
 Calls Tryz.prog 15 #[.agg #[.int .i64 b,c.val]] w fun e w'=>e= .returned (.bool (labOk b c.n c.f c.g))∧Below w.heap.size w w':=specOk_any b c.a c.n c.k c.f c.g w hc.1 hc.2
theorem sOwn_v(c:IntL)(w:World)(hc:c.at w):
 Calls Tryz.prog 80 #[c.val] w fun e w'=>e= .returned (.bool (ownOk c.n c.h))∧Below w.heap.size w w':=l2Owns_any c.a c.n c.k c.h w hc.1 hc.2
theorem l3Object_any(t:ObjV)(w:World)(ht:t.at w):
 Calls Tryz.prog 46 #[t.val] w fun e w'=>e= .returned (.bool (objOk t))∧Below w.heap.size w w':=by
 have hb0:=(Below.refl _ w).alloc (Nat.le_refl _) (.cells #[.int .i64 t.id,.int .i64 t.kind,.int .i64 t.up,.int .i64 t.b1,t.c1.val,.string t.data,t.items.val,t.own.val,.int .i64 t.b2,t.c2.val] 42);have A0:=Blk.new w (.cells #[.int .i64 t.id,.int .i64 t.kind,.int .i64 t.up,.int .i64 t.b1,t.c1.val,.string t.data,t.items.val,t.own.val,.int .i64 t.b2,t.c2.val] 42);have T0:=hid (ht.below hb0);unfold ObjV.val;obtain⟨x0,x1,x2,x3,x4,x5,x6,x7,x8,x9⟩:=A0.ten;clear ht;go_enter Tryz.func46,Tryz.ntmps46
 go_wp2_with fail
 refine(sLabOk_v _ t.c1 _ T0.out.1).mono ?_;rintro e w1 ⟨rfl,hb1⟩;have A1:=A0.below hb1;have T1:=hid (T0.out.below hb1);have B1:=then_ hb0 hb1;clear x0 x1 x2 x3 x4 x5 x6 x7 x8 x9 A0 T0 hb0 hb1;obtain⟨x0,x1,x2,x3,x4,x5,x6,x7,x8,x9⟩:=A1.ten;cases t1:labOk t.b1 t.c1.n t.c1.f t.c1.g with
 |false=>
  go_wp2;go_ret;exact⟨ret_bool (by simp[objOk,t1]),B1⟩
 |true=>
 go_wp2_with fail
 refine(sLabOk_v _ t.c2 _ T1.out.2.2.2.1).mono ?_;rintro e w2 ⟨rfl,hb2⟩;have A2:=A1.below hb2;have T2:=hid (T1.out.below hb2);have B2:=then_ B1 hb2;clear x0 x1 x2 x3 x4 x5 x6 x7 x8 x9 A1 T1 B1 hb2;obtain⟨x0,x1,x2,x3,x4,x5,x6,x7,x8,x9⟩:=A2.ten;cases t2:labOk t.b2 t.c2.n t.c2.f t.c2.g with
 |false=>
  go_wp2;go_ret;exact⟨ret_bool (by simp[objOk,t2]),B2⟩
 |true=>
 go_wp2_with fail
 refine(sOwn_v t.own _ T2.out.2.2.1).mono ?_;rintro e w3 ⟨rfl,hb3⟩;have A3:=A2.below hb3;have T3:=hid (T2.out.below hb3);have B3:=then_ B2 hb3;clear x0 x1 x2 x3 x4 x5 x6 x7 x8 x9 A2 T2 B2 hb3;obtain⟨x0,x1,x2,x3,x4,x5,x6,x7,x8,x9⟩:=A3.ten;cases t3:ownOk t.own.n t.own.h with
 |false=>
  go_wp2;go_ret;exact⟨ret_bool (by simp[objOk,t3]),B3⟩
 |true=>
 unfold StrL.val at x6;have hn5:=T3.out.2.1.1;unfold maxLen at hn5;by_cases h8:8<t.items.n
 ·have h8':(8:Int)<(t.items.n:Int):=by omega
  go_wp2;go_ret;exact⟨ret_bool (by simp[objOk,itemsB_len h8]),B3⟩
 have h8':¬(8:Int)<(t.items.n:Int):=by omega
 go_wp2_with fail
 refine(l3Plain_any t.data _ _ T3.out.2.2.2.2).mono ?_;rintro e w4 ⟨rfl,rfl⟩;cases t4:plainB t.data 40 with
 |false=>
  go_wp2;go_ret;exact⟨ret_bool (by simp[objOk,t4]),B3⟩
 |true=>
 have OK:Hid (itemsB t.items.n t.items.f=true→objOk t=kindB t):=hid (fun t5=>by simp[objOk,t1,t2,t3,t4,t5]);clear t1 t2 t3 t4;go_wp2;go_loop [3] (fun i=>∃k:Nat,k≤t.items.n∧i= .int .i64 k∧Hid (∀j,j<k→plainB (t.items.f j) 40=true)) (fun i=>t.items.n-(intOf i).toNat)
 case atStart=>exact⟨0,Nat.zero_le _,rfl,hid (fun j hj=>by omega)⟩
 case round=>
  obtain⟨k,hk,rfl,HA⟩:=hrel;by_cases hlt:k<t.items.n
  ·obtain⟨b,off,ea,hlt0,hcc⟩:=T3.out.2.1.2.1 (by omega);rw[ea]at x6;have g1:=hcc k hlt;have z:=T3.out.2.1.2.2 k hlt;have i1:(k:Int)<(t.items.n:Int):=(by omega);clear hcc ea;go_wp2_with fail
   refine(l3Plain_any _ _ _ z).mono ?_;rintro e w5 ⟨rfl,rfl⟩;clear g1;by_cases t5:plainB (t.items.f k) 40=true
   ·have HA2:Hid (∀j,j<k+1→plainB (t.items.f j) 40=true):=hid (fun j hj=>by
     by_cases e:j=k
     ·subst e;exact t5
     ·exact HA.out j (by omega))
    go_wp2;exact⟨⟨k+1,by omega,by go_num,HA2⟩,by simp[intOf];omega⟩
   ·have t':plainB (t.items.f k) 40=false:=(by simpa using t5);clear t5;go_wp2;go_ret;exact⟨ret_bool (by simp[objOk,itemsB_at hlt t']),B3⟩
  ·have e:k=t.items.n:=(by omega);have OK2:=hid (OK.out (by rw[itemsB_all (by rw[←e];exact HA.out)];simp;omega));clear e OK HA;unfold IntL.val at x7;unfold CatL.val at x9;have hn6:=T3.out.2.2.1.1;have hn7:=T3.out.2.2.2.1.1;unfold maxLen at hn6 hn7;go_wp2;all_goals
    go_ret;refine⟨ret_bool ?_,by assumption⟩;rw[OK2.out];clear OK2 h8' x0 x1 x2 x3 x4 x5 x6 x7 x8 x9;first
    |(simp_all[kindB,zeroB,natz];done)
    |(simp_all[kindB,zeroB];exact natz _)
end Go.Proofs.YtbacmamplkdgaaaGreatDoor
