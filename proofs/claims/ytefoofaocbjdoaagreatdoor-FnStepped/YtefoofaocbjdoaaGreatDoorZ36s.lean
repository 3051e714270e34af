import Derived.Test.YtefoofaocbjdoaaGreatDoorZ35s
set_option maxRecDepth 100000
set_option maxHeartbeats 16000000
namespace Go.Proofs.YtefoofaocbjdoaaGreatDoor
open Go Go.RowKit Go.Deep Go.Maps Go.BigFrame Go.Shelf Go.Proofs.Tryz
theorem aQ(t:Ab)(P:Nat)(S D1 D2 D3 X1 X2 BL:ByteArray)(u0 u1 u2 u4 u5 u6 u8 u9 u10 u11 u12 u13 u14 u15 u16 u17 u18 u19 u20 u21 u22 u23 u24 u25 u26 u27 u28 u29 u30 u31 u32 u33 u34 u35 u36 u37 u38 u39 u40 u41 u42 u43 u44 u45 u46 u47 u48 u49 u50 u51 u52 u53 u54 u55 u56 u57 u58 u59 u60 u61 u62 u63 u64 u65 u66 u67 u68 u69 u70 u71 u72 u73 u74 u75 u76 u77 u78 u79 u80 u81 u82 u83 u84 u85 u86 u87 u88 u89 u90 u91 u92 u93 u94 u95 u96 u97 u98 u99 u100 u101 u102 u103 u104 u105 u106 u107 u108 u109 u110 u111 u112 u113 u114 u115 u116 u117 u118:Value)(V:World)(Q:Exit->Act->World->Prop)(hp:∀c a d v w,Q (.panic c) (Act.put a (some d) v) w->Q (.panic c) a w)
 (ED:∀args w,(callFunc 20 args).run prog w= .ok (.enter 20 args) w)(EX:∀args w,(callFunc 21 args).run prog w= .ok (.enter 21 args) w)(EL:∀args w,(callFunc 22 args).run prog w= .ok (.enter 22 args) w)(HA:∀W,Below V V W->Ah W P (.cells t 63))(PD1:∀W,Below V V W->Calls prog 20 #[t.id] W fun e w'=>∃v,e= .returned v/\v= .string D1/\Below W W w')(PD2:∀W,Below V V W->Calls prog 20 #[t.kind] W fun e w'=>∃v,e= .returned v/\v= .string D2/\Below W W w')(PD3:∀W,Below V V W->Calls prog 20 #[t.up] W fun e w'=>∃v,e= .returned v/\v= .string D3/\Below W W w')(PX1:∀W,Below V V W->Calls prog 21 #[.agg #[t.b1,t.c1]] W fun e w'=>∃v,e= .returned v/\v= .string X1/\Below W W w')(PX2:∀W,Below V V W->Calls prog 21 #[.agg #[t.b2,t.c2]] W fun e w'=>∃v,e= .returned v/\v= .string X2/\Below W W w')(PB:∀W,Below V V W->Calls prog 22 #[t.own] W fun e w'=>∃v,e= .returned v/\v= .string BL/\Below W W w')(z0:S.size<=3000000)(z1:D1.size<=4)(z2:D2.size<=4)(z3:D3.size<=4)(z4:X1.size<=200)(z5:X2.size<=200)(z6:BL.size<=2000)
 (hQ:∀W,Below V V W->Q .normal ⟨#[u0,u1,u2,.string (S++(ByteArray.mk #[111,98,106,101,99,116,32])++D1++(ByteArray.mk #[32])++D2++(ByteArray.mk #[32])++D3++(ByteArray.mk #[32])++X1++(ByteArray.mk #[32])++X2++BL++(ByteArray.mk #[10])),u4,u5,u6,.pointer P,u8,u9,u10,u11,u12,u13,u14,u15,u16,u17,u18,u19,u20,u21,u22,u23,u24,u25,u26,u27,u28,u29,u30,u31,u32,u33,u34,u35,u36,u37,u38,u39,u40,u41,u42,u43,u44,u45,u46,u47,u48,u49,u50,u51,u52,u53,u54,u55,u56,u57,u58,u59,u60,u61,.string S,.string (S++(ByteArray.mk #[111,98,106,101,99,116,32])),.pointer P,(t.id:Value),.string D1,.string (S++(ByteArray.mk #[111,98,106,101,99,116,32])++D1),.string (S++(ByteArray.mk #[111,98,106,101,99,116,32])++D1++(ByteArray.mk #[32])),.pointer (some ⟨P,1,none⟩),(t.kind:Value),.string D2,.string (S++(ByteArray.mk #[111,98,106,101,99,116,32])++D1++(ByteArray.mk #[32])++D2),.string (S++(ByteArray.mk #[111,98,106,101,99,116,32])++D1++(ByteArray.mk #[32])++D2++(ByteArray.mk #[32])),.pointer (some ⟨P,2,none⟩),(t.up:Value),.string D3,.string (S++(ByteArray.mk #[111,98,106,101,99,116,32])++D1++(ByteArray.mk #[32])++D2++(ByteArray.mk #[32])++D3),.string (S++(ByteArray.mk #[111,98,106,101,99,116,32])++D1++(ByteArray.mk #[32])++D2++(ByteArray.mk #[32])++D3++(ByteArray.mk #[32])),.pointer (some ⟨P,3,none⟩),.agg #[t.b1,t.c1],.string X1,.string (S++(ByteArray.mk #[111,98,106,101,99,116,32])++D1++(ByteArray.mk #[32])++D2++(ByteArray.mk #[32])++D3++(ByteArray.mk #[32])++X1),.string (S++(ByteArray.mk #[111,98,106,101,99,116,32])++D1++(ByteArray.mk #[32])++D2++(ByteArray.mk #[32])++D3++(ByteArray.mk #[32])++X1++(ByteArray.mk #[32])),.pointer (some ⟨P,8,none⟩),.agg #[t.b2,t.c2],.string X2,.string (S++(ByteArray.mk #[111,98,106,101,99,116,32])++D1++(ByteArray.mk #[32])++D2++(ByteArray.mk #[32])++D3++(ByteArray.mk #[32])++X1++(ByteArray.mk #[32])++X2),.pointer (some ⟨P,7,none⟩),(t.own:Value),.string BL,.string (S++(ByteArray.mk #[111,98,106,101,99,116,32])++D1++(ByteArray.mk #[32])++D2++(ByteArray.mk #[32])++D3++(ByteArray.mk #[32])++X1++(ByteArray.mk #[32])++X2++BL),.string (S++(ByteArray.mk #[111,98,106,101,99,116,32])++D1++(ByteArray.mk #[32])++D2++(ByteArray.mk #[32])++D3++(ByteArray.mk #[32])++X1++(ByteArray.mk #[32])++X2++BL++(ByteArray.mk #[10])),u93,u94,u95,u96,u97,u98,u99,u100,u101,u102,u103,u104,u105,u106,u107,u108,u109,u110,u111,u112,u113,u114,u115,u116,u117,u118],[]⟩ W):
 Code.wp prog (Code.region 13 #[{dst:=some 62,op:=Op.move (Operand.tmp 3),type:=9,pos:= "l10_texts.go:49",after:=#[],guard:=none},{dst:=some 63,op:=Op.binOp BinOp.add 9 (Operand.tmp 62) (Operand.const (Value.string {data:=#[111,98,106,101,99,116,32]})) 9,type:=9,pos:= "l10_texts.go:49",after:=#[{on:=0,ground:=Ground.data}],guard:=none},{dst:=some 64,op:=Op.fieldAddr 63 (Operand.tmp 7) 0,type:=0,pos:= "l10_texts.go:49",after:=#[],guard:=none},{dst:=some 65,op:=Op.load 2 (Operand.tmp 64),type:=2,pos:= "l10_texts.go:49",after:=#[{on:=2,ground:=Ground.data}],guard:=none},{dst:=some 66,op:=Op.call {callee:=Callee.value (Operand.func 20),args:=#[Operand.tmp 65],argTypes:=#[2]},type:=9,pos:= "l10_texts.go:49",after:=#[{on:=3,ground:=Ground.data}],guard:=none},{dst:=some 67,op:=Op.binOp BinOp.add 9 (Operand.tmp 63) (Operand.tmp 66) 9,type:=9,pos:= "l10_texts.go:49",after:=#[{on:=1,ground:=Ground.data},{on:=4,ground:=Ground.data}],guard:=none},{dst:=some 68,op:=Op.binOp BinOp.add 9 (Operand.tmp 67) (Operand.const (Value.string {data:=#[32]})) 9,type:=9,pos:= "l10_texts.go:49",after:=#[{on:=5,ground:=Ground.data}],guard:=none},{dst:=some 69,op:=Op.fieldAddr 63 (Operand.tmp 7) 1,type:=0,pos:= "l10_texts.go:49",after:=#[],guard:=none},{dst:=some 70,op:=Op.load 2 (Operand.tmp 69),type:=2,pos:= "l10_texts.go:49",after:=#[{on:=7,ground:=Ground.data}],guard:=none},{dst:=some 71,op:=Op.call {callee:=Callee.value (Operand.func 20),args:=#[Operand.tmp 70],argTypes:=#[2]},type:=9,pos:= "l10_texts.go:49",after:=#[{on:=8,ground:=Ground.data},{on:=4,ground:=Ground.chain}],guard:=none},{dst:=some 72,op:=Op.binOp BinOp.add 9 (Operand.tmp 68) (Operand.tmp 71) 9,type:=9,pos:= "l10_texts.go:49",after:=#[{on:=6,ground:=Ground.data},{on:=9,ground:=Ground.data}],guard:=none},{dst:=some 73,op:=Op.binOp BinOp.add 9 (Operand.tmp 72) (Operand.const (Value.string {data:=#[32]})) 9,type:=9,pos:= "l10_texts.go:49",after:=#[{on:=10,ground:=Ground.data}],guard:=none},{dst:=some 74,op:=Op.fieldAddr 63 (Operand.tmp 7) 2,type:=0,pos:= "l10_texts.go:49",after:=#[],guard:=none},{dst:=some 75,op:=Op.load 2 (Operand.tmp 74),type:=2,pos:= "l10_texts.go:49",after:=#[{on:=12,ground:=Ground.data}],guard:=none},{dst:=some 76,op:=Op.call {callee:=Callee.value (Operand.func 20),args:=#[Operand.tmp 75],argTypes:=#[2]},type:=9,pos:= "l10_texts.go:49",after:=#[{on:=13,ground:=Ground.data},{on:=9,ground:=Ground.chain}],guard:=none},{dst:=some 77,op:=Op.binOp BinOp.add 9 (Operand.tmp 73) (Operand.tmp 76) 9,type:=9,pos:= "l10_texts.go:49",after:=#[{on:=11,ground:=Ground.data},{on:=14,ground:=Ground.data}],guard:=none},{dst:=some 78,op:=Op.binOp BinOp.add 9 (Operand.tmp 77) (Operand.const (Value.string {data:=#[32]})) 9,type:=9,pos:= "l10_texts.go:49",after:=#[{on:=15,ground:=Ground.data}],guard:=none},{dst:=some 79,op:=Op.fieldAddr 63 (Operand.tmp 7) 3,type:=0,pos:= "l10_texts.go:49",after:=#[],guard:=none},{dst:=some 80,op:=Op.load 30 (Operand.tmp 79),type:=30,pos:= "l10_texts.go:49",after:=#[{on:=17,ground:=Ground.data}],guard:=none},{dst:=some 81,op:=Op.call {callee:=Callee.value (Operand.func 21),args:=#[Operand.tmp 80],argTypes:=#[30]},type:=9,pos:= "l10_texts.go:49",after:=#[{on:=18,ground:=Ground.data},{on:=14,ground:=Ground.chain}],guard:=none},{dst:=some 82,op:=Op.binOp BinOp.add 9 (Operand.tmp 78) (Operand.tmp 81) 9,type:=9,pos:= "l10_texts.go:49",after:=#[{on:=16,ground:=Ground.data},{on:=19,ground:=Ground.data}],guard:=none},{dst:=some 83,op:=Op.binOp BinOp.add 9 (Operand.tmp 82) (Operand.const (Value.string {data:=#[32]})) 9,type:=9,pos:= "l10_texts.go:49",after:=#[{on:=20,ground:=Ground.data}],guard:=none},{dst:=some 84,op:=Op.fieldAddr 63 (Operand.tmp 7) 7,type:=0,pos:= "l10_texts.go:49",after:=#[],guard:=none},{dst:=some 85,op:=Op.load 30 (Operand.tmp 84),type:=30,pos:= "l10_texts.go:49",after:=#[{on:=22,ground:=Ground.data}],guard:=none},{dst:=some 86,op:=Op.call {callee:=Callee.value (Operand.func 21),args:=#[Operand.tmp 85],argTypes:=#[30]},type:=9,pos:= "l10_texts.go:49",after:=#[{on:=23,ground:=Ground.data},{on:=19,ground:=Ground.chain}],guard:=none},{dst:=some 87,op:=Op.binOp BinOp.add 9 (Operand.tmp 83) (Operand.tmp 86) 9,type:=9,pos:= "l10_texts.go:49",after:=#[{on:=21,ground:=Ground.data},{on:=24,ground:=Ground.data}],guard:=none},{dst:=some 88,op:=Op.fieldAddr 63 (Operand.tmp 7) 6,type:=0,pos:= "l10_texts.go:49",after:=#[],guard:=none},{dst:=some 89,op:=Op.load 55 (Operand.tmp 88),type:=55,pos:= "l10_texts.go:49",after:=#[{on:=26,ground:=Ground.data}],guard:=none},{dst:=some 90,op:=Op.call {callee:=Callee.value (Operand.func 22),args:=#[Operand.tmp 89],argTypes:=#[55]},type:=9,pos:= "l10_texts.go:49",after:=#[{on:=27,ground:=Ground.data},{on:=24,ground:=Ground.chain}],guard:=none},{dst:=some 91,op:=Op.binOp BinOp.add 9 (Operand.tmp 87) (Operand.tmp 90) 9,type:=9,pos:= "l10_texts.go:49",after:=#[{on:=25,ground:=Ground.data},{on:=28,ground:=Ground.data}],guard:=none},{dst:=some 92,op:=Op.binOp BinOp.add 9 (Operand.tmp 91) (Operand.const (Value.string {data:=#[10]})) 9,type:=9,pos:= "l10_texts.go:49",after:=#[{on:=29,ground:=Ground.data}],guard:=none},{dst:=some 3,op:=Op.assign (Operand.tmp 92),type:=9,pos:= "l10_texts.go:49",after:=#[{on:=30,ground:=Ground.data},{on:=28,ground:=Ground.chain},{on:=0,ground:=Ground.phase},{on:=1,ground:=Ground.phase},{on:=2,ground:=Ground.phase},{on:=3,ground:=Ground.phase},{on:=4,ground:=Ground.phase},{on:=5,ground:=Ground.phase},{on:=6,ground:=Ground.phase},{on:=7,ground:=Ground.phase},{on:=8,ground:=Ground.phase},{on:=9,ground:=Ground.phase},{on:=10,ground:=Ground.phase},{on:=11,ground:=Ground.phase},{on:=12,ground:=Ground.phase},{on:=13,ground:=Ground.phase},{on:=14,ground:=Ground.phase},{on:=15,ground:=Ground.phase},{on:=16,ground:=Ground.phase},{on:=17,ground:=Ground.phase},{on:=18,ground:=Ground.phase},{on:=19,ground:=Ground.phase},{on:=20,ground:=Ground.phase},{on:=21,ground:=Ground.phase},{on:=22,ground:=Ground.phase},{on:=23,ground:=Ground.phase},{on:=24,ground:=Ground.phase},{on:=25,ground:=Ground.phase},{on:=26,ground:=Ground.phase},{on:=27,ground:=Ground.phase},{on:=28,ground:=Ground.phase},{on:=29,ground:=Ground.phase},{on:=30,ground:=Ground.phase}],guard:=none}] true) Q ⟨#[u0,u1,u2,.string S,u4,u5,u6,.pointer P,u8,u9,u10,u11,u12,u13,u14,u15,u16,u17,u18,u19,u20,u21,u22,u23,u24,u25,u26,u27,u28,u29,u30,u31,u32,u33,u34,u35,u36,u37,u38,u39,u40,u41,u42,u43,u44,u45,u46,u47,u48,u49,u50,u51,u52,u53,u54,u55,u56,u57,u58,u59,u60,u61,u62,u63,u64,u65,u66,u67,u68,u69,u70,u71,u72,u73,u74,u75,u76,u77,u78,u79,u80,u81,u82,u83,u84,u85,u86,u87,u88,u89,u90,u91,u92,u93,u94,u95,u96,u97,u98,u99,u100,u101,u102,u103,u104,u105,u106,u107,u108,u109,u110,u111,u112,u113,u114,u115,u116,u117,u118],[]⟩ V:=by
 have V0:Below V V V.drew:=(Below.refl _ V).drew;refine Am 32 (fun W=>Below V V W) (by kernel_rfl) ?_;refine tr 0 62 (.string S) V0 ?_ (hQ:=(fun c a w h=>hp c a _ _ w h));refine tr 1 63 (.string (S++(ByteArray.mk #[111,98,106,101,99,116,32]))) V0 ?_ (hy:=fun W h=>by go_simp;omega) (hQ:=(fun c a w h=>hp c a _ _ w h));refine tr 2 64 (.pointer P) V0 ?_ (hQ:=(fun c a w h=>hp c a _ _ w h));refine tr 3 65 (.int .i64 t.id) V0 ?_ (hy:=fun W h=>by obtain⟨q0,q1,q2,q3,q4,q5,q6,q7,q8,q9⟩:=(HA W h).jE;go_simp) (hQ:=(fun c a w h=>hp c a _ _ w h));refine tr 7 69 (.pointer (some ⟨P,1,none⟩)) V0 ?_ (hQ:=(fun c a w h=>hp c a _ _ w h));refine tr 8 70 (.int .i64 t.kind) V0 ?_ (hy:=fun W h=>by obtain⟨q0,q1,q2,q3,q4,q5,q6,q7,q8,q9⟩:=(HA W h).jE;go_simp) (hQ:=(fun c a w h=>hp c a _ _ w h));refine tr 12 74 (.pointer (some ⟨P,2,none⟩)) V0 ?_ (hQ:=(fun c a w h=>hp c a _ _ w h));refine tr 13 75 (.int .i64 t.up) V0 ?_ (hy:=fun W h=>by obtain⟨q0,q1,q2,q3,q4,q5,q6,q7,q8,q9⟩:=(HA W h).jE;go_simp) (hQ:=(fun c a w h=>hp c a _ _ w h));refine tr 17 79 (.pointer (some ⟨P,3,none⟩)) V0 ?_ (hQ:=(fun c a w h=>hp c a _ _ w h));refine tr 18 80 (.agg #[t.b1,t.c1]) V0 ?_ (hy:=fun W h=>by obtain⟨q0,q1,q2,q3,q4,q5,q6,q7,q8,q9⟩:=(HA W h).jE;go_simp) (hQ:=(fun c a w h=>hp c a _ _ w h));refine tr 22 84 (.pointer (some ⟨P,8,none⟩)) V0 ?_ (hQ:=(fun c a w h=>hp c a _ _ w h));refine tr 23 85 (.agg #[t.b2,t.c2]) V0 ?_ (hy:=fun W h=>by obtain⟨q0,q1,q2,q3,q4,q5,q6,q7,q8,q9⟩:=(HA W h).jE;go_simp) (hQ:=(fun c a w h=>hp c a _ _ w h));refine tr 26 88 (.pointer (some ⟨P,7,none⟩)) V0 ?_ (hQ:=(fun c a w h=>hp c a _ _ w h));refine tr 27 89 (.slice t.own.a t.own.n t.own.k) V0 ?_ (hy:=fun W h=>by obtain⟨q0,q1,q2,q3,q4,q5,q6,q7,q8,q9⟩:=(HA W h).jE;go_simp) (hQ:=(fun c a w h=>hp c a _ _ w h));refine Ac (i:=4) (by kernel_rfl) rfl ?_;intro K hK;refine Ao (by rfl) 20 _ _ (by rfl) ED _ (by rfl) (some 66) (by rfl) _ (PD1 _ V0) ?_;rintro v w1x ⟨rfl,h1⟩;have V1:=Af V0 h1;refine hK _ _ (fun _=>V1) ?_;clear hK K;simp only[ap,List.set];refine tr 5 67 (.string (S++(ByteArray.mk #[111,98,106,101,99,116,32])++D1)) V1 ?_ (hy:=fun W h=>by go_simp;omega) (hQ:=(fun c a w h=>hp c a _ _ w h));refine tr 6 68 (.string (S++(ByteArray.mk #[111,98,106,101,99,116,32])++D1++(ByteArray.mk #[32]))) V1 ?_ (hy:=fun W h=>by go_simp;omega) (hQ:=(fun c a w h=>hp c a _ _ w h));refine Ac (i:=9) (by kernel_rfl) rfl ?_;intro K hK;refine Ao (by rfl) 20 _ _ (by rfl) ED _ (by rfl) (some 71) (by rfl) _ (PD2 _ V1) ?_;rintro v w2x ⟨rfl,h2⟩;have V2:=Af V1 h2;refine hK _ _ (fun _=>V2) ?_;clear hK K;simp only[ap,List.set];refine tr 10 72 (.string (S++(ByteArray.mk #[111,98,106,101,99,116,32])++D1++(ByteArray.mk #[32])++D2)) V2 ?_ (hy:=fun W h=>by go_simp;omega) (hQ:=(fun c a w h=>hp c a _ _ w h));refine tr 11 73 (.string (S++(ByteArray.mk #[111,98,106,101,99,116,32])++D1++(ByteArray.mk #[32])++D2++(ByteArray.mk #[32]))) V2 ?_ (hy:=fun W h=>by go_simp;omega) (hQ:=(fun c a w h=>hp c a _ _ w h));refine Ac (i:=14) (by kernel_rfl) rfl ?_;intro K hK;refine Ao (by rfl) 20 _ _ (by rfl) ED _ (by rfl) (some 76) (by rfl) _ (PD3 _ V2) ?_;rintro v w3x ⟨rfl,h3⟩;have V3:=Af V2 h3;refine hK _ _ (fun _=>V3) ?_;clear hK K;simp only[ap,List.set];refine tr 15 77 (.string (S++(ByteArray.mk #[111,98,106,101,99,116,32])++D1++(ByteArray.mk #[32])++D2++(ByteArray.mk #[32])++D3)) V3 ?_ (hy:=fun W h=>by go_simp;omega) (hQ:=(fun c a w h=>hp c a _ _ w h));refine tr 16 78 (.string (S++(ByteArray.mk #[111,98,106,101,99,116,32])++D1++(ByteArray.mk #[32])++D2++(ByteArray.mk #[32])++D3++(ByteArray.mk #[32]))) V3 ?_ (hy:=fun W h=>by go_simp;omega) (hQ:=(fun c a w h=>hp c a _ _ w h));refine Ac (i:=19) (by kernel_rfl) rfl ?_;intro K hK;refine Ao (by rfl) 21 _ _ (by rfl) EX _ (by rfl) (some 81) (by rfl) _ (PX1 _ V3) ?_;rintro v w4x ⟨rfl,h4⟩;have V4:=Af V3 h4;refine hK _ _ (fun _=>V4) ?_;clear hK K;simp only[ap,List.set];refine tr 20 82 (.string (S++(ByteArray.mk #[111,98,106,101,99,116,32])++D1++(ByteArray.mk #[32])++D2++(ByteArray.mk #[32])++D3++(ByteArray.mk #[32])++X1)) V4 ?_ (hy:=fun W h=>by go_simp;omega) (hQ:=(fun c a w h=>hp c a _ _ w h));refine tr 21 83 (.string (S++(ByteArray.mk #[111,98,106,101,99,116,32])++D1++(ByteArray.mk #[32])++D2++(ByteArray.mk #[32])++D3++(ByteArray.mk #[32])++X1++(ByteArray.mk #[32]))) V4 ?_ (hy:=fun W h=>by go_simp;omega) (hQ:=(fun c a w h=>hp c a _ _ w h));refine Ac (i:=24) (by kernel_rfl) rfl ?_;intro K hK;refine Ao (by rfl) 21 _ _ (by rfl) EX _ (by rfl) (some 86) (by rfl) _ (PX2 _ V4) ?_;rintro v w5x ⟨rfl,h5⟩;have V5:=Af V4 h5;refine hK _ _ (fun _=>V5) ?_;clear hK K;simp only[ap,List.set];refine tr 25 87 (.string (S++(ByteArray.mk #[111,98,106,101,99,116,32])++D1++(ByteArray.mk #[32])++D2++(ByteArray.mk #[32])++D3++(ByteArray.mk #[32])++X1++(ByteArray.mk #[32])++X2)) V5 ?_ (hy:=fun W h=>by go_simp;omega) (hQ:=(fun c a w h=>hp c a _ _ w h));refine Ac (i:=28) (by kernel_rfl) rfl ?_;intro K hK;refine Ao (by rfl) 22 _ _ (by rfl) EL _ (by rfl) (some 90) (by rfl) _ (PB _ V5) ?_;rintro v w6x ⟨rfl,h6⟩;have V6:=Af V5 h6;refine hK _ _ (fun _=>V6) ?_;clear hK K;simp only[ap,List.set];refine tr 29 91 (.string (S++(ByteArray.mk #[111,98,106,101,99,116,32])++D1++(ByteArray.mk #[32])++D2++(ByteArray.mk #[32])++D3++(ByteArray.mk #[32])++X1++(ByteArray.mk #[32])++X2++BL)) V6 ?_ (hy:=fun W h=>by go_simp;omega) (hQ:=(fun c a w h=>hp c a _ _ w h));refine tr 30 92 (.string (S++(ByteArray.mk #[111,98,106,101,99,116,32])++D1++(ByteArray.mk #[32])++D2++(ByteArray.mk #[32])++D3++(ByteArray.mk #[32])++X1++(ByteArray.mk #[32])++X2++BL++(ByteArray.mk #[10]))) V6 ?_ (hy:=fun W h=>by go_simp;omega) (hQ:=(fun c a w h=>hp c a _ _ w h));refine tr 31 3 (.string (S++(ByteArray.mk #[111,98,106,101,99,116,32])++D1++(ByteArray.mk #[32])++D2++(ByteArray.mk #[32])++D3++(ByteArray.mk #[32])++X1++(ByteArray.mk #[32])++X2++BL++(ByteArray.mk #[10]))) V6 ?_ (hQ:=(fun c a w h=>hp c a _ _ w h));refine Ai (by kernel_rfl) ?_ _;exact hQ _ V6
theorem Q6{a b:ByteArray}(h:a.data.toList=b.data.toList):a=b:=by
 obtain⟨⟨x⟩⟩:=a;obtain⟨⟨y⟩⟩:=b;simp at h;rw[h]
theorem Wm(s:List UInt8)(t:Ae):(⟨s.toArray⟩:ByteArray)++ByteArray.mk #[116,104,114,101,97,100,32]++⟨(dc t.id).toArray⟩++ByteArray.mk #[32]++⟨(lb t.b1 t.c1).toArray⟩++ByteArray.mk #[32]++⟨(lb t.b2 t.c2).toArray⟩++ByteArray.mk #[32]++⟨(dc t.made).toArray⟩++⟨(bl (Fp t.own)).toArray⟩++ByteArray.mk #[10]=⟨(s++Oy t).toArray⟩:=by
 refine Q6 ?_;rw[Sg];simp[ByteArray.data_append,ZX]
theorem VA(s:List UInt8)(o:Ab):(⟨s.toArray⟩:ByteArray)++ByteArray.mk #[111,98,106,101,99,116,32]++⟨(dc o.id).toArray⟩++ByteArray.mk #[32]++⟨(dc o.kind).toArray⟩++ByteArray.mk #[32]++⟨(dc o.up).toArray⟩++ByteArray.mk #[32]++⟨(lb o.b1 o.c1).toArray⟩++ByteArray.mk #[32]++⟨(lb o.b2 o.c2).toArray⟩++⟨(bl (Fp o.own)).toArray⟩++ByteArray.mk #[10]=⟨(s++Ii o []).toArray⟩:=by
 refine Q6 ?_;rw[RN];simp[ByteArray.data_append,Zz,bl]
theorem WJ(s:List UInt8)(d:ByteArray)(h:¬d.toList.isEmpty=true):(⟨s.toArray⟩:ByteArray)++ByteArray.mk #[100,97,116,97,32]++d++ByteArray.mk #[10]=⟨(s++IU d).toArray⟩:=by
 refine Q6 ?_;rw[IU,if_neg h,Kh];simp[ByteArray.data_append,bB]
theorem PQ(s:List UInt8)(d:ByteArray):(⟨s.toArray⟩:ByteArray)++ByteArray.mk #[105,116,101,109,32]++d++ByteArray.mk #[10]=⟨(s++JM [XT,d.data.toList]).toArray⟩:=by
 refine Q6 ?_;rw[Kh];simp[ByteArray.data_append,XT]
theorem Iq(k:Ax)(w:World)(hk:k.at w)(hw:k.wfs):
 Calls prog 8 #[k.val] w fun e w'=>e= .returned (.string (Gd k))/\Below w w w':=by
 have ED:∀args w,(callFunc 20 args).run prog w= .ok (.enter 20 args) w:=enters_of func20 (by kernel_rfl) rfl;have EX:∀args w,(callFunc 21 args).run prog w= .ok (.enter 21 args) w:=enters_of func21 (by kernel_rfl) rfl;have EL:∀args w,(callFunc 22 args).run prog w= .ok (.enter 22 args) w:=enters_of func22 (by kernel_rfl) rfl;have n4:Na #[.slice k.ta k.tn k.tk,.slice k.oa k.on k.ok]:=⟨⟩;have b0:Below w w (w.alloc (Obj.cells n4 27)):=Be w _;have A0:=Ah.new w (Obj.cells n4 27);have HK:=hid hk;have C1:=hid (Jh k _ (hk.below b0) (fun i hi=>(hw i hi).1));unfold Ax.val at C1;unfold Ax.val;obtain⟨x0,x1⟩:=A0.two;clear hk hw;go_enter func8,ntmps8
 go_wp2_with fail
 refine C1.out.mono ?_;rintro e w1 ⟨rfl,hb1⟩;have A1:=A0.below hb1;have B1:=Af b0 hb1;clear x0 x1 C1 A0 b0 hb1;cases t:Bd k with
 |false=>
  have E:Gd k=ByteArray.mk #[]:=by simp[Gd,t]
  go_wp2;go_ret;exact⟨Tu E.symm,B1⟩
 |true=>
 have KT:Hid (Gd k=⟨(Ep k.T k.tn++Fl k.O k.on).toArray⟩):=hid (by rw[Gd,if_pos t]);have OK:=hid t;obtain⟨tn1,tn9,on2⟩:=Xd t;clear t;go_wp2;go_loopw [3,4] (fun s i wr=>∃q:Nat,q<=k.tn/\i= .int .i64 q/\s= .string ⟨(Ep k.T q).toArray⟩/\Ah wr w (Obj.cells n4 27)/\Below w w wr) (fun _ i _=>k.tn-(intOf i).toNat)
 case atStart=>exact⟨0,Nat.zero_le _,rfl,rfl,A1,B1⟩
 case round=>
  clear A1 B1;obtain⟨q,hq,rfl,rfl,A,hB⟩:=hrel;by_cases hlt:q<k.tn
  ·obtain⟨tb,off,ea,hlt0,hcc⟩:=(HK.out.2.2.1.below hB) (by omega);rw[ea]at A;obtain⟨x0,x1⟩:=A.two;obtain⟨⟨q0,q1,q2,q3,q4,q5,q6⟩,ht⟩:=hcc q hlt;have i1:(q:Int)<(k.tn:Int):=(by omega);simp only[Au.val,AI.val]at q2 q4 q5;clear hcc;go_wp2;have n1:Na (k.T q):=⟨⟩;have bC:Below wr wr (wr.alloc (Obj.cells n1 57)):=Be wr _;have XV:=Ah.new wr (Obj.cells n1 57);have AV:=A.alloc (Obj.cells n1 57);have HTt:=hid (ht.below bC);have BV:=Af hB bC;obtain⟨p1,p2,p3,p4,p5⟩:=Ls (Q7 OK hlt);have EQ:=hid (Wm (Ep k.T q) (k.T q));rw[<-Oc]at EQ;have z0:(⟨(Ep k.T q).toArray⟩:ByteArray).size<=10000:=(by rw[Dd,List.size_toArray];have:=PM (T:=k.T) (n:=q) (fun i hi=>Q7 OK (by omega));omega);have z1:(⟨(dc (k.T q).id).toArray⟩:ByteArray).size<=4:=(by rw[Dd,List.size_toArray];exact Fx p1);have z2:(⟨(dc (k.T q).made).toArray⟩:ByteArray).size<=4:=(by rw[Dd,List.size_toArray];exact Fx p2);have z3:(⟨(lb (k.T q).b1 (k.T q).c1).toArray⟩:ByteArray).size<=200:=(by rw[Dd,List.size_toArray];exact IP p3);have z4:(⟨(lb (k.T q).b2 (k.T q).c2).toArray⟩:ByteArray).size<=200:=(by rw[Dd,List.size_toArray];exact IP p4);have z5:(⟨(bl (Fp (k.T q).own)).toArray⟩:ByteArray).size<=50:=(by rw[Dd,List.size_toArray];have:=LF (Do p5).2;rw[Jz]at this;have:=(Do p5).1;omega);have ow:∀i,i<(k.T q).own.n->small ((k.T q).own.h i):=fun i hi=>(Do p5).2 _ (List.mem_map.2 ⟨i,List.mem_range.2 hi,rfl⟩);have on10:=(Do p5).1;generalize hV:wr.alloc (Obj.cells n1 57)=V at *;have PD1:Hid (∀W,Below V V W->Calls prog 20 #[.int .i64 (k.T q).id] W fun e w'=>∃v,e= .returned v/\v= .string ⟨(dc (k.T q).id).toArray⟩/\Below W W w'):=hid (fun W hW=>(Qk _ W p1).mono fun e w' ⟨h1,h2⟩=>⟨_,h1,rfl,h2⟩);have PD2:Hid (∀W,Below V V W->Calls prog 20 #[.int .i64 (k.T q).made] W fun e w'=>∃v,e= .returned v/\v= .string ⟨(dc (k.T q).made).toArray⟩/\Below W W w'):=hid (fun W hW=>(Qk _ W p2).mono fun e w' ⟨h1,h2⟩=>⟨_,h1,rfl,h2⟩);have PX1:Hid (∀W,Below V V W->Calls prog 21 #[.agg #[.int .i64 (k.T q).b1,.slice (k.T q).c1.a (k.T q).c1.n (k.T q).c1.k]] W fun e w'=>∃v,e= .returned v/\v= .string ⟨(lb (k.T q).b1 (k.T q).c1).toArray⟩/\Below W W w'):=hid (fun W hW=>(Vl _ (k.T q).c1 W (HTt.out.below hW).1 p3).mono fun e w' ⟨h1,h2⟩=>⟨_,h1,rfl,h2⟩);have PX2:Hid (∀W,Below V V W->Calls prog 21 #[.agg #[.int .i64 (k.T q).b2,.slice (k.T q).c2.a (k.T q).c2.n (k.T q).c2.k]] W fun e w'=>∃v,e= .returned v/\v= .string ⟨(lb (k.T q).b2 (k.T q).c2).toArray⟩/\Below W W w'):=hid (fun W hW=>(Vl _ (k.T q).c2 W (HTt.out.below hW).2.1 p4).mono fun e w' ⟨h1,h2⟩=>⟨_,h1,rfl,h2⟩);have PB:Hid (∀W,Below V V W->Calls prog 22 #[.slice (k.T q).own.a (k.T q).own.n (k.T q).own.k] W fun e w'=>∃v,e= .returned v/\v= .string ⟨(bl (Fp (k.T q).own)).toArray⟩/\Below W W w'):=hid (fun W hW=>(Od (k.T q).own W (HTt.out.below hW).2.2 ow (by omega)).mono fun e w' ⟨h1,h2⟩=>⟨_,h1,rfl,h2⟩);have HA:Hid (∀W,Below V V W->Ah W wr (Obj.cells n1 57)):=hid (fun W h=>XV.below h);have HKA:=hid AV;clear x0 x1 q0 q1 q2 q3 q4 q5 q6 ht XV AV p1 p2 p3 p4 p5 ow on10 bC hV A;generalize (⟨(Ep k.T q).toArray⟩:ByteArray)=S at *;generalize (⟨(dc (k.T q).id).toArray⟩:ByteArray)=D1 at *;generalize (⟨(dc (k.T q).made).toArray⟩:ByteArray)=D2 at *;generalize (⟨(lb (k.T q).b1 (k.T q).c1).toArray⟩:ByteArray)=X1 at *;generalize (⟨(lb (k.T q).b2 (k.T q).c2).toArray⟩:ByteArray)=X2 at *;generalize (⟨(bl (Fp (k.T q).own)).toArray⟩:ByteArray)=BL at *;refine aW (k.T q) wr S D1 D2 X1 X2 BL _ _ _ _ _ _ _ _ _ _ _ _ _ _ _ _ _ _ _ _ _ _ _ _ _ _ _ _ _ _ _ _ _ _ _ _ _ _ _ _ _ _ _ _ _ _ _ _ _ _ _ _ _ _ _ _ _ _ _ _ _ _ _ _ _ _ _ _ _ _ _ _ _ _ _ _ _ _ _ _ _ _ _ _ _ _ _ _ _ _ _ _ _ _ _ _ _ _ _ _ _ _ _ _ _ _ _ _ _ _ _ _ _ _ _ _ _ V _ (fun _ _ _ _ _ h=>h) ED EX EL HA PD1 PX1 PX2 PD2 PB (by omega) z1 z2 z3 z4 (by omega) ?_;intro W3 V3;have B3:=Af BV V3;have A3:=HKA.out.below V3;rw[<-ea]at A3;clear HA HKA PD1 PD2 PX1 PX2 PB ea;go_wp2;exact⟨⟨q+1,by omega,by go_num,by rw[EQ.out],A3,B3⟩,by simp[intOf];omega⟩
  ·have i1:¬(q:Int)<(k.tn:Int):=(by omega);obtain rfl:q=k.tn:=by omega
   obtain⟨x0,x1⟩:=A.two;go_wp2;clear x0 x1;go_loopw [3,6] (fun s i wr=>∃q:Nat,q<=k.on/\i= .int .i64 q/\s= .string ⟨(Ep k.T k.tn++Fl k.O q).toArray⟩/\Ah wr w (Obj.cells #[.slice k.ta k.tn k.tk,.slice k.oa k.on k.ok] 27)/\Below w w wr) (fun _ i _=>k.on-(intOf i).toNat)
   case atStart=>exact⟨0,Nat.zero_le _,rfl,by simp[Fl],A,hB⟩
   case round=>
    clear A hB i1 hlt hq;obtain⟨q,hq,rfl,rfl,A,hB⟩:=hrel;by_cases hlt:q<k.on
    ·obtain⟨ob,off,ea,hlt0,hcc⟩:=(HK.out.2.2.2.below hB) (by omega);rw[ea]at A;obtain⟨x0,x1⟩:=A.two;obtain⟨⟨q0,q1,q2,q3,q4,q5,q6,q7,q8,q9⟩,ht⟩:=hcc q hlt;have i1:(q:Int)<(k.on:Int):=(by omega);simp only[Au.val,AI.val,AF.val]at q4 q6 q7 q9;clear hcc;go_wp2;have n2:Na (k.O q):=⟨⟩;have bC:Below wr wr (wr.alloc (Obj.cells n2 63)):=Be wr _;have XV:=Ah.new wr (Obj.cells n2 63);have AV:=A.alloc (Obj.cells n2 63);have HTt:=hid (ht.below bC);have BV:=Af hB bC;obtain⟨p1,p2,p3,p4,p5,p6,p7⟩:=Le (QH OK hlt);have y1:=Rf OK hlt;have y2:=YP OK hlt;obtain⟨s,hs⟩:∃s,s=Ep k.T k.tn++Fl k.O q:=⟨_,rfl⟩;rw[<-hs];have HSS:=hid hs;have EQ:=hid (VA s (k.O q));have sl:s.length<=2000000:=by
      have h1:=PM (T:=k.T) (n:=k.tn) (fun i hi=>Q7 OK hi);have h2:=VS OK hq;rw[hs,List.length_append];omega
     have sl2:(s++Ii (k.O q) []).length<=2003000:=by
      have:=Te (ks:=[]) (QH OK hlt) y1 y2 (fun x hx=>by cases hx) (by simp);rw[List.length_append];omega
     have z0:(⟨s.toArray⟩:ByteArray).size<=2000000:=(by rw[Dd,List.size_toArray];exact sl);have z1:(⟨(dc (k.O q).id).toArray⟩:ByteArray).size<=4:=(by rw[Dd,List.size_toArray];exact Fx y1);have z2:(⟨(dc (k.O q).kind).toArray⟩:ByteArray).size<=4:=(by rw[Dd,List.size_toArray];exact Fx p7);have z6:(⟨(dc (k.O q).up).toArray⟩:ByteArray).size<=4:=(by rw[Dd,List.size_toArray];exact Fx y2);have z3:(⟨(lb (k.O q).b1 (k.O q).c1).toArray⟩:ByteArray).size<=200:=(by rw[Dd,List.size_toArray];exact IP p1);have z4:(⟨(lb (k.O q).b2 (k.O q).c2).toArray⟩:ByteArray).size<=200:=(by rw[Dd,List.size_toArray];exact IP p2);have z5:(⟨(bl (Fp (k.O q).own)).toArray⟩:ByteArray).size<=50:=(by rw[Dd,List.size_toArray];have:=LF (Do p3).2;rw[Jz]at this;have:=(Do p3).1;omega);have ow:∀i,i<(k.O q).own.n->small ((k.O q).own.h i):=fun i hi=>(Do p3).2 _ (List.mem_map.2 ⟨i,List.mem_range.2 hi,rfl⟩);have on10:=(Do p3).1;have n3:Na (k.O q):=⟨⟩;generalize hV:wr.alloc (Obj.cells n3 63)=V at *;have PD1:Hid (∀W,Below V V W->Calls prog 20 #[.int .i64 (k.O q).id] W fun e w'=>∃v,e= .returned v/\v= .string ⟨(dc (k.O q).id).toArray⟩/\Below W W w'):=hid (fun W hW=>(Qk _ W y1).mono fun e w' ⟨h1,h2⟩=>⟨_,h1,rfl,h2⟩);have PD2:Hid (∀W,Below V V W->Calls prog 20 #[.int .i64 (k.O q).kind] W fun e w'=>∃v,e= .returned v/\v= .string ⟨(dc (k.O q).kind).toArray⟩/\Below W W w'):=hid (fun W hW=>(Qk _ W p7).mono fun e w' ⟨h1,h2⟩=>⟨_,h1,rfl,h2⟩);have PD3:Hid (∀W,Below V V W->Calls prog 20 #[.int .i64 (k.O q).up] W fun e w'=>∃v,e= .returned v/\v= .string ⟨(dc (k.O q).up).toArray⟩/\Below W W w'):=hid (fun W hW=>(Qk _ W y2).mono fun e w' ⟨h1,h2⟩=>⟨_,h1,rfl,h2⟩);have PX1:Hid (∀W,Below V V W->Calls prog 21 #[.agg #[.int .i64 (k.O q).b1,.slice (k.O q).c1.a (k.O q).c1.n (k.O q).c1.k]] W fun e w'=>∃v,e= .returned v/\v= .string ⟨(lb (k.O q).b1 (k.O q).c1).toArray⟩/\Below W W w'):=hid (fun W hW=>(Vl _ (k.O q).c1 W (HTt.out.below hW).1 p1).mono fun e w' ⟨h1,h2⟩=>⟨_,h1,rfl,h2⟩);have PX2:Hid (∀W,Below V V W->Calls prog 21 #[.agg #[.int .i64 (k.O q).b2,.slice (k.O q).c2.a (k.O q).c2.n (k.O q).c2.k]] W fun e w'=>∃v,e= .returned v/\v= .string ⟨(lb (k.O q).b2 (k.O q).c2).toArray⟩/\Below W W w'):=hid (fun W hW=>(Vl _ (k.O q).c2 W (HTt.out.below hW).2.2.2.1 p2).mono fun e w' ⟨h1,h2⟩=>⟨_,h1,rfl,h2⟩);have PB:Hid (∀W,Below V V W->Calls prog 22 #[.slice (k.O q).own.a (k.O q).own.n (k.O q).own.k] W fun e w'=>∃v,e= .returned v/\v= .string ⟨(bl (Fp (k.O q).own)).toArray⟩/\Below W W w'):=hid (fun W hW=>(Od (k.O q).own W (HTt.out.below hW).2.2.1 ow (by omega)).mono fun e w' ⟨h1,h2⟩=>⟨_,h1,rfl,h2⟩);have HA:Hid (∀W,Below V V W->Ah W wr (Obj.cells n3 63)):=hid (fun W h=>XV.below h);have HKA:=hid AV;have BW:=bC;have HIT:=hid (ht.2.1);have HP:=hid (And.intro p4 (And.intro p5 p6));have szwr:wr.heap.size<V.heap.size:=XV.lt;clear x0 x1 q0 q1 q2 q3 q4 q5 q6 q7 q8 q9 ht XV AV p1 p2 p3 p4 p5 p6 p7 y1 y2 ow on10 bC hV A hs;obtain⟨S3,hS3⟩:∃S3:ByteArray,S3=⟨(s++Ii (k.O q) []).toArray⟩:=⟨_,rfl⟩;have HS3:=hid hS3;have z7:S3.size<=2003000:=(by rw[hS3,Dd,List.size_toArray];exact sl2);rw[<-hS3]at EQ;clear hS3 sl sl2;generalize (⟨s.toArray⟩:ByteArray)=S at *;generalize (⟨(dc (k.O q).id).toArray⟩:ByteArray)=D1 at *;generalize (⟨(dc (k.O q).kind).toArray⟩:ByteArray)=D2 at *;generalize (⟨(dc (k.O q).up).toArray⟩:ByteArray)=D3 at *;generalize (⟨(lb (k.O q).b1 (k.O q).c1).toArray⟩:ByteArray)=X1 at *;generalize (⟨(lb (k.O q).b2 (k.O q).c2).toArray⟩:ByteArray)=X2 at *;generalize (⟨(bl (Fp (k.O q).own)).toArray⟩:ByteArray)=BL at *;refine aQ (k.O q) wr S D1 D2 D3 X1 X2 BL _ _ _ _ _ _ _ _ _ _ _ _ _ _ _ _ _ _ _ _ _ _ _ _ _ _ _ _ _ _ _ _ _ _ _ _ _ _ _ _ _ _ _ _ _ _ _ _ _ _ _ _ _ _ _ _ _ _ _ _ _ _ _ _ _ _ _ _ _ _ _ _ _ _ _ _ _ _ _ _ _ _ _ _ _ _ _ _ _ _ _ _ _ _ _ _ _ _ _ _ _ _ _ _ _ _ _ _ _ _ _ _ _ _ _ _ _ V _ (fun _ _ _ _ _ h=>h) ED EX EL HA PD1 PD2 PD3 PX1 PX2 PB (by omega) z1 z2 z6 z3 z4 (by omega) ?_;intro W3 V3;have B3:=Af BV V3;have A3:=HKA.out.below V3;have X3:=HA.out _ V3;rw[<-ea]at A3;rw[EQ.out];clear HA HKA PD1 PD2 PD3 PX1 PX2 PB ea EQ z0 z1 z2 z3 z4 z5 z6;obtain⟨x0,x1,x2,x3,x4,x5,x6,x7,x8,x9⟩:=X3.jE;have IT:Hid (∀(W:World),Below W3 W3 W->Jl W (k.O q).jA.a (k.O q).jA.n (k.O q).jA.f):=hid (fun W h=>HIT.out.2.1.below (Af BW (Af V3 h)));have DONE:Hid (∀S4:ByteArray,S4=⟨(s++Ii (k.O q) []++IU (k.O q).data).toArray⟩->S4.size<=2003100/\∀j,j<=(k.O q).jA.n->(⟨(s++Ii (k.O q) []++IU (k.O q).data++Hu (k.O q).jA.f j).toArray⟩:ByteArray).size<=2004000):=hid (fun S4 h=>by
      have l1:(s++Ii (k.O q) []).length<=2003000:=(by have:=z7;rw[HS3.out,Dd,List.size_toArray]at this;exact this);have l2:=Rs HP.out.1;refine⟨by rw[h,Dd,List.size_toArray,List.length_append];omega,fun j hj=>?_⟩;have l3:=SQ (f:=(k.O q).jA.f) (n:=j) (fun i hi=>HP.out.2.2 i (by omega));have l4:=HP.out.2.1;rw[Dd,List.size_toArray,List.length_append,List.length_append];omega)
     have FINI:Hid ((⟨(s++Ii (k.O q) []++IU (k.O q).data++Hu (k.O q).jA.f (k.O q).jA.n).toArray⟩:ByteArray)=⟨(Ep k.T k.tn++Fl k.O (q+1)).toArray⟩):=hid (by
      rw[HSS.out,N0,objT];simp only[List.append_assoc])
     by_cases hd:(k.O q).data.toList.isEmpty=true
     ·have E4:Hid (S3=⟨(s++Ii (k.O q) []++IU (k.O q).data).toArray⟩):=hid (by rw[HS3.out,IU,if_pos hd,List.append_nil]);go_wp2;obtain⟨d1,d2⟩:=DONE.out _ E4.out;rw[E4.out];have d2h:=hid d2;clear x0 x1 x2 x3 x4 x5 x6 x7 x8 x9 d1 d2;go_loop [3,8] (fun s' i=>∃j:Nat,j<=(k.O q).jA.n/\i= .int .i64 j/\s'= .string ⟨(s++Ii (k.O q) []++IU (k.O q).data++Hu (k.O q).jA.f j).toArray⟩) (fun _ i=>(k.O q).jA.n-(intOf i).toNat)
      case atStart=>exact⟨0,Nat.zero_le _,rfl,by simp[Hu]⟩
      case round=>
       obtain⟨j,hj,rfl,rfl⟩:=hrel;have hi8:=HP.out.2.1;obtain⟨x0,x1,x2,x3,x4,x5,x6,x7,x8,x9⟩:=X3.jE;by_cases hjl:j<(k.O q).jA.n
       ·obtain⟨ib,io,eia,hib,hci⟩:=IT.out _ (Below.refl _ _) (by omega);have c1:=hci j hjl;rw[eia]at x6;have j1:(j:Int)<((k.O q).jA.n:Int):=(by omega);have zz:=d2h.out j hj;have E5:=hid (PQ (s++Ii (k.O q) []++IU (k.O q).data++Hu (k.O q).jA.f j) ((k.O q).jA.f j));rw[List.append_assoc _ (Hu _ _),<-Lz]at E5;have z8:=HP.out.2.2 j hjl;clear hci eia;generalize (⟨(s++Ii (k.O q) []++IU (k.O q).data++Hu (k.O q).jA.f j).toArray⟩:ByteArray)=S5 at *;generalize (k.O q).jA.f j=DJ at *;have Jw:(ByteArray.mk #[105,116,101,109,32]).size=5:=rfl;have lt1:(ByteArray.mk #[10]).size=1:=rfl;have r1:¬9223372036854775807<S5.size+(ByteArray.mk #[105,116,101,109,32]).size:=(by omega);have r2:¬9223372036854775807<(S5++ByteArray.mk #[105,116,101,109,32]).size+DJ.size:=(by rw[ByteArray.size_append];omega);have r3:¬9223372036854775807<(S5++ByteArray.mk #[105,116,101,109,32]++DJ).size+(ByteArray.mk #[10]).size:=(by simp only[ByteArray.size_append];omega);clear Jw lt1;go_wp2;exact⟨⟨j+1,by omega,by go_num,by rw[E5.out]⟩,by simp[intOf];omega⟩
       ·have j1:¬(j:Int)<((k.O q).jA.n:Int):=(by omega);obtain rfl:j=(k.O q).jA.n:=by omega
        go_wp2;exact⟨⟨q+1,by omega,by go_num,by rw[FINI.out],A3,B3⟩,by simp[intOf];omega⟩
     ·have hd':(k.O q).data.toList.isEmpty=false:=(by simpa using hd);have E4:Hid (S3++ByteArray.mk #[100,97,116,97,32]++(k.O q).data++ByteArray.mk #[10]=⟨(s++Ii (k.O q) []++IU (k.O q).data).toArray⟩):=hid (by rw[HS3.out];exact WJ _ _ hd);have hp4:=HP.out.1;have Jw:(ByteArray.mk #[100,97,116,97,32]).size=5:=rfl;have lt1:(ByteArray.mk #[10]).size=1:=rfl;have r1:¬9223372036854775807<S3.size+(ByteArray.mk #[100,97,116,97,32]).size:=(by omega);have r2:¬9223372036854775807<(S3++ByteArray.mk #[100,97,116,97,32]).size+(k.O q).data.size:=(by rw[ByteArray.size_append];omega);have r3:¬9223372036854775807<(S3++ByteArray.mk #[100,97,116,97,32]++(k.O q).data).size+(ByteArray.mk #[10]).size:=(by simp only[ByteArray.size_append];omega);clear Jw lt1 hp4;clear hd;go_wp2;clear r1 r2 r3;obtain⟨d1,d2⟩:=DONE.out _ E4.out;rw[E4.out];have d2h:=hid d2;clear x0 x1 x2 x3 x4 x5 x6 x7 x8 x9 d1 d2;go_loop [3,8] (fun s' i=>∃j:Nat,j<=(k.O q).jA.n/\i= .int .i64 j/\s'= .string ⟨(s++Ii (k.O q) []++IU (k.O q).data++Hu (k.O q).jA.f j).toArray⟩) (fun _ i=>(k.O q).jA.n-(intOf i).toNat)
      case atStart=>exact⟨0,Nat.zero_le _,rfl,by simp[Hu]⟩
      case round=>
       obtain⟨j,hj,rfl,rfl⟩:=hrel;have hi8:=HP.out.2.1;obtain⟨x0,x1,x2,x3,x4,x5,x6,x7,x8,x9⟩:=X3.jE;by_cases hjl:j<(k.O q).jA.n
       ·obtain⟨ib,io,eia,hib,hci⟩:=IT.out _ (Below.refl _ _) (by omega);have c1:=hci j hjl;rw[eia]at x6;have j1:(j:Int)<((k.O q).jA.n:Int):=(by omega);have zz:=d2h.out j hj;have E5:=hid (PQ (s++Ii (k.O q) []++IU (k.O q).data++Hu (k.O q).jA.f j) ((k.O q).jA.f j));rw[List.append_assoc _ (Hu _ _),<-Lz]at E5;have z8:=HP.out.2.2 j hjl;clear hci eia;generalize (⟨(s++Ii (k.O q) []++IU (k.O q).data++Hu (k.O q).jA.f j).toArray⟩:ByteArray)=S5 at *;generalize (k.O q).jA.f j=DJ at *;have Jw:(ByteArray.mk #[105,116,101,109,32]).size=5:=rfl;have lt1:(ByteArray.mk #[10]).size=1:=rfl;have r1:¬9223372036854775807<S5.size+(ByteArray.mk #[105,116,101,109,32]).size:=(by omega);have r2:¬9223372036854775807<(S5++ByteArray.mk #[105,116,101,109,32]).size+DJ.size:=(by rw[ByteArray.size_append];omega);have r3:¬9223372036854775807<(S5++ByteArray.mk #[105,116,101,109,32]++DJ).size+(ByteArray.mk #[10]).size:=(by simp only[ByteArray.size_append];omega);clear Jw lt1;go_wp2;exact⟨⟨j+1,by omega,by go_num,by rw[E5.out]⟩,by simp[intOf];omega⟩
       ·have j1:¬(j:Int)<((k.O q).jA.n:Int):=(by omega);obtain rfl:j=(k.O q).jA.n:=by omega
        go_wp2;exact⟨⟨q+1,by omega,by go_num,by rw[FINI.out],A3,B3⟩,by simp[intOf];omega⟩
    ·have i1:¬(q:Int)<(k.on:Int):=(by omega);obtain rfl:q=k.on:=by omega
     obtain⟨x0,x1⟩:=A.two;go_wp2;go_ret;exact⟨Tu KT.out.symm,hB⟩
theorem Sp{lt lt':List Ae}{lo lo':List Ab}{s:Al}{t:Nat}{c:Int}{tx:ByteArray}{X:Ae}(ht:t<lt.length)(hX:X=lt[t])(p:FV X s lt lo t c tx lt' lo')(hc:c≠0):lt'=lt/\lo'=lo/\tx=⟨#[]⟩:=by
 have st:lt.set t X=lt:=by rw[hX];exact List.set_getElem_self ht
 cases p with
 |k1 h x e1 e2 p=>
  rcases p with⟨_,_,rfl,e⟩|⟨e,_⟩
  ·exact⟨by rw[e1,st],e2,e⟩
  ·exact absurd e hc
 |k12 h x e1 e2 e3 p=>
  rcases p with⟨_,_,rfl⟩|⟨e,_⟩
  ·exact⟨by rw[e1,st],e2,e3⟩
  ·exact absurd e hc
 |k14 h x e1 e2 e3 p=>
  rcases p with⟨_,_,rfl⟩|⟨e,_⟩
  ·exact⟨by rw[e1,st],e2,e3⟩
  ·exact absurd e hc
 |make h p=>
  rcases p with⟨_,_,e1,e2,e3⟩|⟨_,_,_,e1,e2,e3⟩|⟨e,_⟩
  ·exact⟨e2,e3,e1⟩
  ·exact⟨e2,e3,e1⟩
  ·exact absurd e hc
 |drop h e1 e3 p=>
  rcases p with⟨_,_,e2⟩|⟨e,_⟩
  ·exact⟨e1,e2,e3⟩
  ·exact absurd e hc
 |k6 h p=>
  rcases p with⟨_,_,e1,e2,e3⟩|⟨u,_,⟨_,_,e1,e2,e3⟩|⟨_,e,_⟩⟩
  ·exact⟨e2,e3,e1⟩
  ·exact⟨e2,e3,e1⟩
  ·exact absurd e hc
 |k7 h p=>
  rcases p with⟨_,_,e1,e2,e3⟩|⟨u,_,e,_⟩
  ·exact⟨e2,e3,e1⟩
  ·exact absurd e hc
 |k8 h p=>
  rcases p with⟨_,_,e1,e2,e3⟩|⟨u,_,⟨_,_,e1,e2,e3⟩|⟨q,_,⟨_,_,e1,e2,e3⟩|⟨_,_,e,_⟩⟩⟩
  ·exact⟨e2,e3,e1⟩
  ·exact⟨e2,e3,e1⟩
  ·exact⟨e2,e3,e1⟩
  ·exact absurd e hc
 |k9 h p=>
  rcases p with⟨_,_,e1,e2,e3⟩|⟨u,_,⟨_,_,e1,e2,e3⟩|⟨_,_,_,e1,e2,e3⟩|⟨_,_,e,_⟩⟩
  ·exact⟨e2,e3,e1⟩
  ·exact⟨e2,e3,e1⟩
  ·exact⟨e2,e3,e1⟩
  ·exact absurd e hc
 |k10 h p=>
  rcases p with⟨_,_,e1,e2,e3⟩|⟨u,_,⟨_,_,e1,e2,e3⟩|⟨_,_,_,e1,e2,e3⟩|⟨_,_,e,_⟩⟩
  ·exact⟨e2,e3,e1⟩
  ·exact⟨e2,e3,e1⟩
  ·exact⟨e2,e3,e1⟩
  ·exact absurd e hc
 |k13 h p=>
  rcases p with⟨_,_,e1,e2,e3⟩|⟨u,_,⟨_,_,e1,e2,e3⟩|⟨_,_,_,e1,e2,e3⟩|⟨_,_,e,_⟩⟩
  ·exact⟨e2,e3,e1⟩
  ·exact⟨e2,e3,e1⟩
  ·exact⟨e2,e3,e1⟩
  ·exact absurd e hc
 |k15 h p=>
  rcases p with⟨_,_,e1,e2,e3⟩|⟨u,_,e,_⟩
  ·exact⟨e2,e3,e1⟩
  ·exact absurd e hc
theorem Qw{lt lt':List Ae}{lo lo':List Ab}{s:Al}{c:Int}{tx:ByteArray}(d:Gb lt lo s c tx lt' lo')(hc:c≠0):lt'=lt/\lo'=lo/\tx=⟨#[]⟩:=by
 cases d with
 |form a b t e f=>exact⟨e,f,t⟩
 |thread a b c t e f=>exact⟨e,f,t⟩
 |act a t ht hn p=>exact Sp ht rfl p hc
theorem ZU{lt lt':List Ae}{lo lo':List Ab}{s:Al}{t:Nat}{c:Int}{tx:ByteArray}{X:Ae}(p:FV X s lt lo t c tx lt' lo'):lt'.length=lt.length:=by
 cases p with
 |k1 h x e1 e2 p=>rw[e1];simp
 |k12 h x e1 e2 e3 p=>rw[e1];simp
 |k14 h x e1 e2 e3 p=>rw[e1];simp
 |make h p=>rcases p with⟨_,_,_,e,_⟩|⟨_,_,_,_,e,_⟩|⟨_,_,_,_,e,_⟩<;>rw[e]<;>simp
 |drop h e1 e3 p=>rw[e1]
 |k6 h p=>rcases p with⟨_,_,_,e,_⟩|⟨u,_,⟨_,_,_,e,_⟩|⟨_,_,_,e,_⟩⟩<;>rw[e]
 |k7 h p=>rcases p with⟨_,_,_,e,_⟩|⟨u,_,_,_,e,_⟩<;>rw[e]
 |k8 h p=>rcases p with⟨_,_,_,e,_⟩|⟨u,_,⟨_,_,_,e,_⟩|⟨q,_,⟨_,_,_,e,_⟩|⟨_,_,_,_,e,_⟩⟩⟩<;>rw[e]
 |k9 h p=>rcases p with⟨_,_,_,e,_⟩|⟨u,_,⟨_,_,_,e,_⟩|⟨_,_,_,_,e,_⟩|⟨_,_,_,_,e,_⟩⟩<;>rw[e]
 |k10 h p=>rcases p with⟨_,_,_,e,_⟩|⟨u,_,⟨_,_,_,e,_⟩|⟨_,_,_,_,e,_⟩|⟨_,_,_,_,e,_⟩⟩<;>rw[e]
 |k13 h p=>rcases p with⟨_,_,_,e,_⟩|⟨u,_,⟨_,_,_,e,_⟩|⟨_,_,_,_,e,_⟩|⟨_,_,_,_,_,_,e,_⟩⟩<;>rw[e]<;>simp
 |k15 h p=>rcases p with⟨_,_,_,e,_⟩|⟨u,_,_,_,e,_⟩<;>rw[e]
theorem YH{lt lt':List Ae}{lo lo':List Ab}{s:Al}{c:Int}{tx:ByteArray}(d:Gb lt lo s c tx lt' lo'):lt'.length=lt.length:=by
 cases d with
 |form a b t e f=>rw[e]
 |thread a b c t e f=>rw[e]
 |act a t ht hn p=>exact ZU p
theorem ZZ{ta oa ta' oa':Option Addr}{ca co ca' co':Nat}{lt lt':List Ae}{lo lo':List Ab}(ok:okL lt lo=true)(ok':okL lt' lo'=true)(et:lt'.map Ae.nm=lt.map Ae.nm)(eo:lo'.map Ab.nm=lo.map Ab.nm):
 Gd (Cp ta' ca' oa' co' lt' lo')=Gd (Cp ta ca oa co lt lo):=by
 have l1:lt'.length=lt.length:=by simpa using congrArg List.length et
 have l2:lo'.length=lo.length:=by simpa using congrArg List.length eo
 have a:Ep (AY lt') lt'.length=Ep (AY lt) lt.length:=by
  unfold Ep;rw[l1];congr 1;refine List.map_congr_left fun j _=>?_;rw[<-Vr (AY lt' j),<-Vr (AY lt j),<-YJ,<-YJ,et]
 have b:Fl (Aa lo') lo'.length=Fl (Aa lo) lo.length:=by
  unfold Fl;rw[l2];congr 1;refine List.map_congr_left fun j hj=>?_;rw[<-Vo (Aa lo' j),<-Vo (Aa lo j),<-Ia,<-Ia,eo]
 unfold Gd;rw[if_pos (show Bd (Cp ta' ca' oa' co' lt' lo')=true from ok'),if_pos (show Bd (Cp ta ca oa co lt lo)=true from ok)];show(⟨(Ep (AY lt') lt'.length++Fl (Aa lo') lo'.length).toArray⟩:ByteArray)=⟨(Ep (AY lt) lt.length++Fl (Aa lo) lo.length).toArray⟩;rw[a,b]
theorem Qs{b:Int}{c d:Au}(h:c.eqv d):lb b d=lb b c:=by
 unfold lb Fw;rw[h.1];congr 1;exact List.map_congr_left fun i hi=>by rw[(h.2 i (List.mem_range.1 hi)).1,(h.2 i (List.mem_range.1 hi)).2]
theorem Tc{c d:AI}(h:c.eqv d):Fp d=Fp c:=by
 unfold Fp;rw[h.1];exact List.map_congr_left fun i hi=>h.2 i (List.mem_range.1 hi)
theorem ZH{c d:AF}(h:c.eqv d):Hu d.f d.n=Hu c.f c.n:=by
 unfold Hu;rw[h.1];congr 1;exact List.map_congr_left fun i hi=>by rw[h.2 i (List.mem_range.1 hi)]
theorem X9{x y:Ae}(h:x.eqv y):Oy y=Oy x:=by
 obtain⟨h1,h2,h3,h4,h5,h6,h7⟩:=h;unfold Oy;rw[h1,h2,h4,h7,Qs h3,Qs h5,Tc h6]
theorem Yq{x y:Ab}(h:x.eqv y):objT y []=objT x []:=by
 obtain⟨h1,h2,h3,h4,h5,h6,h7,h8,h9,h10⟩:=h;unfold objT Ii;rw[h1,h2,h3,h4,h6,h9,Qs h5,Qs h10,Tc h8,ZH h7]
theorem X6{ta oa ta' oa':Option Addr}{ca co ca' co':Nat}{lt lt':List Ae}{lo lo':List Ab}(ok:okL lt lo=true)(ok':okL lt' lo'=true)(et:SC lt lt')(eo:Rn lo lo'):
 Gd (Cp ta' ca' oa' co' lt' lo')=Gd (Cp ta ca oa co lt lo):=by
 have a:Ep (AY lt') lt'.length=Ep (AY lt) lt.length:=by
  unfold Ep;rw[et.1];congr 1;exact List.map_congr_left fun j hj=>X9 (et.2 j (List.mem_range.1 hj))
 have b:Fl (Aa lo') lo'.length=Fl (Aa lo) lo.length:=by
  unfold Fl;rw[eo.1];congr 1;exact List.map_congr_left fun j hj=>Yq (eo.2 j (List.mem_range.1 hj))
 unfold Gd;rw[if_pos (show Bd (Cp ta' ca' oa' co' lt' lo')=true from ok'),if_pos (show Bd (Cp ta ca oa co lt lo)=true from ok)];show(⟨(Ep (AY lt') lt'.length++Fl (Aa lo') lo'.length).toArray⟩:ByteArray)=⟨(Ep (AY lt) lt.length++Fl (Aa lo) lo.length).toArray⟩;rw[a,b]
theorem Vm{ta oa:Option Addr}{ca co:Nat}{lt:List Ae}{lo:List Ab}(ok:okL lt lo=false):Gd (Cp ta ca oa co lt lo)=⟨#[]⟩:=by
 unfold Gd;rw[if_neg (by rw[show Bd (Cp ta ca oa co lt lo)=false from ok];decide)]
section
variable {ta oa ta1 oa1 ta2 oa2:Option Addr}{ca co ca1 co1 ca2 co2:Nat}{lt lt1 lt2:List Ae}{lo lo1 lo2:List Ab}{s:Al}{c:Int}{tx tx2:ByteArray}
theorem Q9(h:Fe (Cp ta ca oa co lt lo) s c tx lt1 lo1)(h2:Fe (Cp ta ca oa co lt lo) s c tx2 lt2 lo2):Gd (Cp ta1 ca1 oa1 co1 lt1 lo1)=Gd (Cp ta2 ca2 oa2 co2 lt2 lo2):=by
 cases ok:okL lt lo with
 |false=>
  have e:∀{c:Int}{tx:ByteArray}{lt':List Ae}{lo':List Ab},Fe (Cp ta ca oa co lt lo) s c tx lt' lo'->lt'=[]/\lo'=[]:=fun h=>by
   rcases h with⟨_,_,_,e1,e2⟩|⟨e,_⟩
   ·exact⟨e1,e2⟩
   ·rw[show Bd (Cp ta ca oa co lt lo)=false from ok]at e;cases e
  obtain⟨rfl,rfl⟩:=e h;obtain⟨rfl,rfl⟩:=e h2;rw[Vm (by rfl),Vm (by rfl)]
 |true=>
  obtain⟨_,_,st,so⟩:=Mr h2 h;exact X6 (h2.ok2 ok) (h.ok2 ok) st so
theorem Tl(h:Fe (Cp ta ca oa co lt lo) s c tx lt1 lo1)(ok:okL lt lo=false):c=1/\lt1=[]:=by
 rcases h with⟨_,e,_,e1,e2⟩|⟨e,_⟩
 ·exact⟨e,e1⟩
 ·rw[show Bd (Cp ta ca oa co lt lo)=false from ok]at e;cases e
theorem Lk(h:Fe (Cp ta ca oa co lt lo) s c tx lt1 lo1)(ok:okL lt lo=false):lt1=[]/\lo1=[]:=by
 rcases h with⟨_,_,_,e1,e2⟩|⟨e,_⟩
 ·exact⟨e1,e2⟩
 ·rw[show Bd (Cp ta ca oa co lt lo)=false from ok]at e;cases e
theorem VJ{lt lt':List Ae}{lo lo':List Ab}{s:Al}{tx:ByteArray}(d:Gb lt lo s 1 tx lt' lo'):False:=by
 cases d with
 |form _ hc=>cases hc
 |thread _ _ hc=>cases hc
 |act a t ht hn p=>
  cases p with
  |k1 h x e1 e2 p=>rcases p with⟨e,_⟩|⟨e,_⟩<;>cases e
  |k12 h x e1 e2 e3 p=>rcases p with⟨e,_⟩|⟨e,_⟩<;>cases e
  |k14 h x e1 e2 e3 p=>rcases p with⟨e,_⟩|⟨e,_⟩<;>cases e
  |make h p=>rcases p with⟨e,_⟩|⟨e,_⟩|⟨e,_⟩<;>cases e
  |drop h e1 e3 p=>rcases p with⟨e,_⟩|⟨e,_⟩<;>cases e
  |k6 h p=>rcases p with⟨_,e,_⟩|⟨u,_,⟨_,e,_⟩|⟨_,e,_⟩⟩<;>cases e
  |k7 h p=>rcases p with⟨_,e,_⟩|⟨u,_,e,_⟩<;>cases e
  |k8 h p=>rcases p with⟨_,e,_⟩|⟨u,_,⟨_,e,_⟩|⟨q,_,⟨_,e,_⟩|⟨_,_,e,_⟩⟩⟩<;>cases e
  |k9 h p=>rcases p with⟨_,e,_⟩|⟨u,_,⟨_,e,_⟩|⟨_,_,e,_⟩|⟨_,_,e,_⟩⟩<;>cases e
  |k10 h p=>rcases p with⟨_,e,_⟩|⟨u,_,⟨_,e,_⟩|⟨_,_,e,_⟩|⟨_,_,e,_⟩⟩<;>cases e
  |k13 h p=>rcases p with⟨_,e,_⟩|⟨u,_,⟨_,e,_⟩|⟨_,_,e,_⟩|⟨_,_,e,_⟩⟩<;>cases e
  |k15 h p=>rcases p with⟨_,e,_⟩|⟨u,_,e,_⟩<;>cases e
theorem Ua(h:Fe (Cp ta ca oa co lt lo) s c tx lt1 lo1)(ok:okL lt lo=true):c≠1:=fun e=>by
 subst e;exact VJ (QX ok h)
theorem OH(h:Fe (Cp ta ca oa co lt lo) s c tx lt1 lo1)(ok:okL lt lo=true)(hc:c≠0):Gd (Cp ta1 ca1 oa1 co1 lt1 lo1)=Gd (Cp ta ca oa co lt lo)/\tx=⟨#[]⟩:=by
 obtain⟨e1,e2,e3⟩:=Qw (QX ok h) hc;exact⟨ZZ ok (h.ok2 ok) e1 e2,e3⟩
theorem Uq(h:Fe (Cp ta ca oa co lt lo) s 0 tx lt1 lo1)(ok:okL lt lo=true):okL lt1 lo1=true/\lt1.length=lt.length/\s.ok=true:=by
 have d:=QX ok h;refine⟨h.ok2 ok,by simpa using YH d,(Yi d).1⟩
end
theorem au{w:World}{B ca co:Nat}{ta oa:Option Addr}{lt:List Ae}{lo:List Ab}(h:Hg w B (.slice ta lt.length ca) (.slice oa lo.length co) lt lo)(f:La lt lo∨(lt=[]/\lo=[])):(Cp ta ca oa co lt lo).at w:=by
 rcases f with f|⟨rfl,rfl⟩
 ·exact h.at f
 ·exact⟨Nat.zero_le _,Nat.zero_le _,h.t.lies (fun x hx=>by cases hx),h.o.lies (fun x hx=>by cases hx)⟩
theorem Ya{ca co:Nat}{ta oa:Option Addr}{lt:List Ae}{lo:List Ab}(f:La lt lo∨(lt=[]/\lo=[])):(Cp ta ca oa co lt lo).wfs:=by
 rcases f with f|⟨rfl,rfl⟩
 ·exact f.wf
 ·exact fun i hi=>absurd hi (Nat.not_lt_zero _)
end Go.Proofs.YtefoofaocbjdoaaGreatDoor
