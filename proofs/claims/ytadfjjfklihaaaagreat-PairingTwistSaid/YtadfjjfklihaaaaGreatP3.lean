/- What field.mulAdd comes to, called with any four parts: the low and the high part of the product and both more. (Cut to what is reached, written closely: Adds · Product · Wide · Muls · Parts · Take · FArr · FMul.) -/
import Derived.Test.YtadfjjfklihaaaaGreatProg
import Derived.Test.YtadfjjfklihaaaaGreatP2
import Derived.WalkKit
import Derived.WalkSpells
import Derived.WalkLawsBesides
import Derived.LoopN
import Derived.Handy
import Derived.Outline
import Derived.RegionTactic
import Derived.BigRegion
import Derived.Deep.LoopGhost
import Derived.Lib.Hide
import Derived.Laws.Tables
import Derived.Laws.CopyOwn
import Derived.Laws.OwnMore
import Derived.Deep.RegionWith
set_option linter.all false
set_option maxRecDepth 100000
set_option maxHeartbeats 8000000
namespace Go.Proofs.YtadfjjfklihaaaaGreat
open Go.RowKit
theorem add_any(x y:Nat)(w:World) :
  Calls Tryz.prog 104 #[wv x,wv y] w fun e w'=>e=.returned (wv (x+y))/\Below w.heap.size w w':=by
 obtain⟨a0,a1,a2,a3,u0,u1,u2,u3,ea,na⟩:=wv_parts x;obtain⟨b0,b1,b2,b3,v0,v1,v2,v3,eb,nb⟩:=wv_parts y;obtain⟨s0,s1,s2,s3,l0,l1,l2,l3,es,ns⟩:=wv_parts (x+y);have hc:=fun w=>addCarry_any x y w;rw[ea,eb,es]at hc;rw[ea,eb,es];clear ea eb es;generalize ((x%2^256+y%2^256) / 2^256)=c at hc;clear na nb ns;go_enter Tryz.func104,Tryz.ntmps104
 go_wp2_with fail
 refine(hc _).mono ?_;rintro e w' ⟨rfl,hb⟩;obtain⟨⟨q0,q1,q2,q3⟩,⟨f0,f1,f2,f3⟩,hz,hb'⟩:=after4 (w:=w) (B:=w.heap.size) (w.heap.size+1+1) hb (by go_grown) (by simp;omega) (by simp) (by go_cell) (by go_cell) (by go_cell) (by go_cell) (by go_cell) (by go_cell) (by go_cell) (by go_cell);clear hb;go_wp2;refine bodyPost_ret (by simp[results,Tryz.results104,go_sem,hz,q0,q1,q2,q3];try rfl) rfl ⟨rfl,?_⟩;go_grown
open Go.RowKit
theorem product_walk(a0 a1 a2 a3 b0 b1 b2 b3 p00 c00 p01 c01 p02 c02 p03 c03 p10 c10 p11 c11 p12 c12 p13 c13 p20 c20 p21 c21 p22 c22 p23 c23 p30 c30 p31 c31 p32 c32 p33 c33:Nat)(w:World)
  (h00:∀ w,Calls Tryz.prog 151 #[.int .u64 a0,.int .u64 b0,.int .u64 0,.int .u64 0] w fun e w'=>e=.returned (.tuple #[.int .u64 p00,.int .u64 c00])/\w=w')
  (h01:∀ w,Calls Tryz.prog 151 #[.int .u64 a0,.int .u64 b1,.int .u64 0,.int .u64 c00] w fun e w'=>e=.returned (.tuple #[.int .u64 p01,.int .u64 c01])/\w=w')
  (h02:∀ w,Calls Tryz.prog 151 #[.int .u64 a0,.int .u64 b2,.int .u64 0,.int .u64 c01] w fun e w'=>e=.returned (.tuple #[.int .u64 p02,.int .u64 c02])/\w=w')
  (h03:∀ w,Calls Tryz.prog 151 #[.int .u64 a0,.int .u64 b3,.int .u64 0,.int .u64 c02] w fun e w'=>e=.returned (.tuple #[.int .u64 p03,.int .u64 c03])/\w=w')
  (h10:∀ w,Calls Tryz.prog 151 #[.int .u64 a1,.int .u64 b0,.int .u64 p01,.int .u64 0] w fun e w'=>e=.returned (.tuple #[.int .u64 p10,.int .u64 c10])/\w=w')
  (h11:∀ w,Calls Tryz.prog 151 #[.int .u64 a1,.int .u64 b1,.int .u64 p02,.int .u64 c10] w fun e w'=>e=.returned (.tuple #[.int .u64 p11,.int .u64 c11])/\w=w')
  (h12:∀ w,Calls Tryz.prog 151 #[.int .u64 a1,.int .u64 b2,.int .u64 p03,.int .u64 c11] w fun e w'=>e=.returned (.tuple #[.int .u64 p12,.int .u64 c12])/\w=w')
  (h13:∀ w,Calls Tryz.prog 151 #[.int .u64 a1,.int .u64 b3,.int .u64 c03,.int .u64 c12] w fun e w'=>e=.returned (.tuple #[.int .u64 p13,.int .u64 c13])/\w=w')
  (h20:∀ w,Calls Tryz.prog 151 #[.int .u64 a2,.int .u64 b0,.int .u64 p11,.int .u64 0] w fun e w'=>e=.returned (.tuple #[.int .u64 p20,.int .u64 c20])/\w=w')
  (h21:∀ w,Calls Tryz.prog 151 #[.int .u64 a2,.int .u64 b1,.int .u64 p12,.int .u64 c20] w fun e w'=>e=.returned (.tuple #[.int .u64 p21,.int .u64 c21])/\w=w')
  (h22:∀ w,Calls Tryz.prog 151 #[.int .u64 a2,.int .u64 b2,.int .u64 p13,.int .u64 c21] w fun e w'=>e=.returned (.tuple #[.int .u64 p22,.int .u64 c22])/\w=w')
  (h23:∀ w,Calls Tryz.prog 151 #[.int .u64 a2,.int .u64 b3,.int .u64 c13,.int .u64 c22] w fun e w'=>e=.returned (.tuple #[.int .u64 p23,.int .u64 c23])/\w=w')
  (h30:∀ w,Calls Tryz.prog 151 #[.int .u64 a3,.int .u64 b0,.int .u64 p21,.int .u64 0] w fun e w'=>e=.returned (.tuple #[.int .u64 p30,.int .u64 c30])/\w=w')
  (h31:∀ w,Calls Tryz.prog 151 #[.int .u64 a3,.int .u64 b1,.int .u64 p22,.int .u64 c30] w fun e w'=>e=.returned (.tuple #[.int .u64 p31,.int .u64 c31])/\w=w')
  (h32:∀ w,Calls Tryz.prog 151 #[.int .u64 a3,.int .u64 b2,.int .u64 p23,.int .u64 c31] w fun e w'=>e=.returned (.tuple #[.int .u64 p32,.int .u64 c32])/\w=w')
  (h33:∀ w,Calls Tryz.prog 151 #[.int .u64 a3,.int .u64 b3,.int .u64 c23,.int .u64 c32] w fun e w'=>e=.returned (.tuple #[.int .u64 p33,.int .u64 c33])/\w=w') :
  Calls Tryz.prog 141 #[.agg #[.int .u64 a0,.int .u64 a1,.int .u64 a2,.int .u64 a3],.agg #[.int .u64 b0,.int .u64 b1,.int .u64 b2,.int .u64 b3]] w fun e w' =>
   e=.returned (.agg #[.int .u64 p00,.int .u64 p10,.int .u64 p20,.int .u64 p30,.int .u64 p31,.int .u64 p32,.int .u64 p33,.int .u64 c33])/\Below w.heap.size w w':=by
 have ia0:=index4_0;have ia1:=index4_1;have ia2:=index4_2;have ia3:=index4_3;go_enter Tryz.func141,Tryz.ntmps141;go_wp2;refine wp_loop_rounds 5 ?_;rw[rounds_succ];go_wp2;refine wp_loop_rounds 5 ?_;rw[rounds_succ];go_wp2_with fail;refine(h00 _).mono ?_;rintro e w' ⟨rfl,rfl⟩;go_wp2;rw[rounds_succ];go_wp2_with fail;refine(h01 _).mono ?_;rintro e w' ⟨rfl,rfl⟩;go_wp2;rw[rounds_succ];go_wp2_with fail;refine(h02 _).mono ?_;rintro e w' ⟨rfl,rfl⟩;go_wp2;rw[rounds_succ];go_wp2_with fail;refine(h03 _).mono ?_;rintro e w' ⟨rfl,rfl⟩;go_wp2;rw[rounds_succ];go_wp2;rw[rounds_succ];go_wp2;refine wp_loop_rounds 5 ?_;rw[rounds_succ];go_wp2_with fail;refine(h10 _).mono ?_;rintro e w' ⟨rfl,rfl⟩;go_wp2;rw[rounds_succ];go_wp2_with fail;refine(h11 _).mono ?_;rintro e w' ⟨rfl,rfl⟩;go_wp2;rw[rounds_succ];go_wp2_with fail;refine(h12 _).mono ?_;rintro e w' ⟨rfl,rfl⟩;go_wp2;rw[rounds_succ];go_wp2_with fail;refine(h13 _).mono ?_;rintro e w' ⟨rfl,rfl⟩;go_wp2;rw[rounds_succ];go_wp2;rw[rounds_succ];go_wp2;refine wp_loop_rounds 5 ?_;rw[rounds_succ];go_wp2_with fail;refine(h20 _).mono ?_;rintro e w' ⟨rfl,rfl⟩;go_wp2;rw[rounds_succ];go_wp2_with fail;refine(h21 _).mono ?_;rintro e w' ⟨rfl,rfl⟩;go_wp2;rw[rounds_succ];go_wp2_with fail;refine(h22 _).mono ?_;rintro e w' ⟨rfl,rfl⟩;go_wp2;rw[rounds_succ];go_wp2_with fail;refine(h23 _).mono ?_;rintro e w' ⟨rfl,rfl⟩;go_wp2;rw[rounds_succ];go_wp2;rw[rounds_succ];go_wp2;refine wp_loop_rounds 5 ?_;rw[rounds_succ];go_wp2_with fail;refine(h30 _).mono ?_;rintro e w' ⟨rfl,rfl⟩;go_wp2;rw[rounds_succ];go_wp2_with fail;refine(h31 _).mono ?_;rintro e w' ⟨rfl,rfl⟩;go_wp2;rw[rounds_succ];go_wp2_with fail;refine(h32 _).mono ?_;rintro e w' ⟨rfl,rfl⟩;go_wp2;rw[rounds_succ];go_wp2_with fail;refine(h33 _).mono ?_;rintro e w' ⟨rfl,rfl⟩;go_wp2;rw[rounds_succ];go_wp2;rw[rounds_succ];go_wp2
 go_returns
 exact⟨rfl,by go_grown⟩
open Go.RowKit
def dv(x:Nat):Value:=.agg #[.int .u64 ((x%18446744073709551616:Nat):Int),.int .u64 ((x / 18446744073709551616%18446744073709551616:Nat):Int),.int .u64 ((x / 340282366920938463463374607431768211456%18446744073709551616:Nat):Int),.int .u64 ((x / 6277101735386680763835789423207666416102355444464034512896%18446744073709551616:Nat):Int),.int .u64 ((x / 2^256%18446744073709551616:Nat):Int),.int .u64 ((x / 2135987035920910082395021706169552114602704522356652769947041607822219725780640550022962086936576%18446744073709551616:Nat):Int),.int .u64 ((x / 39402006196394479212279040100143613805079739270465446667948293404245721771497210611414266254884915640806627990306816%18446744073709551616:Nat):Int),.int .u64 ((x / 726838724295606890549323807888004534353641360687318060281490199180639288113397923326191050713763565560762521606266177933534601628614656%18446744073709551616:Nat):Int)]
def n8(a0 a1 a2 a3 a4 a5 a6 a7:Nat):Nat:=a0+18446744073709551616*a1+340282366920938463463374607431768211456*a2+6277101735386680763835789423207666416102355444464034512896*a3+2^256*a4+2135987035920910082395021706169552114602704522356652769947041607822219725780640550022962086936576*a5+39402006196394479212279040100143613805079739270465446667948293404245721771497210611414266254884915640806627990306816*a6+726838724295606890549323807888004534353641360687318060281490199180639288113397923326191050713763565560762521606266177933534601628614656*a7
theorem dv_n8{a0 a1 a2 a3 a4 a5 a6 a7:Nat}(h0:a0<18446744073709551616)(h1:a1<18446744073709551616)(h2:a2<18446744073709551616)(h3:a3<18446744073709551616)(h4:a4<18446744073709551616)(h5:a5<18446744073709551616)(h6:a6<18446744073709551616)(h7:a7<18446744073709551616):dv (n8 a0 a1 a2 a3 a4 a5 a6 a7)=.agg #[.int .u64 a0,.int .u64 a1,.int .u64 a2,.int .u64 a3,.int .u64 a4,.int .u64 a5,.int .u64 a6,.int .u64 a7]:=by
 unfold dv n8;have e0:(a0+18446744073709551616*a1+340282366920938463463374607431768211456*a2+6277101735386680763835789423207666416102355444464034512896*a3+2^256*a4+2135987035920910082395021706169552114602704522356652769947041607822219725780640550022962086936576*a5+39402006196394479212279040100143613805079739270465446667948293404245721771497210611414266254884915640806627990306816*a6+726838724295606890549323807888004534353641360687318060281490199180639288113397923326191050713763565560762521606266177933534601628614656*a7)%18446744073709551616=a0:=by omega
 have e1:(a0+18446744073709551616*a1+340282366920938463463374607431768211456*a2+6277101735386680763835789423207666416102355444464034512896*a3+2^256*a4+2135987035920910082395021706169552114602704522356652769947041607822219725780640550022962086936576*a5+39402006196394479212279040100143613805079739270465446667948293404245721771497210611414266254884915640806627990306816*a6+726838724295606890549323807888004534353641360687318060281490199180639288113397923326191050713763565560762521606266177933534601628614656*a7) / 18446744073709551616%18446744073709551616=a1:=by omega
 have e2:(a0+18446744073709551616*a1+340282366920938463463374607431768211456*a2+6277101735386680763835789423207666416102355444464034512896*a3+2^256*a4+2135987035920910082395021706169552114602704522356652769947041607822219725780640550022962086936576*a5+39402006196394479212279040100143613805079739270465446667948293404245721771497210611414266254884915640806627990306816*a6+726838724295606890549323807888004534353641360687318060281490199180639288113397923326191050713763565560762521606266177933534601628614656*a7) / 340282366920938463463374607431768211456%18446744073709551616=a2:=by omega
 have e3:(a0+18446744073709551616*a1+340282366920938463463374607431768211456*a2+6277101735386680763835789423207666416102355444464034512896*a3+2^256*a4+2135987035920910082395021706169552114602704522356652769947041607822219725780640550022962086936576*a5+39402006196394479212279040100143613805079739270465446667948293404245721771497210611414266254884915640806627990306816*a6+726838724295606890549323807888004534353641360687318060281490199180639288113397923326191050713763565560762521606266177933534601628614656*a7) / 6277101735386680763835789423207666416102355444464034512896%18446744073709551616=a3:=by omega
 have e4:(a0+18446744073709551616*a1+340282366920938463463374607431768211456*a2+6277101735386680763835789423207666416102355444464034512896*a3+2^256*a4+2135987035920910082395021706169552114602704522356652769947041607822219725780640550022962086936576*a5+39402006196394479212279040100143613805079739270465446667948293404245721771497210611414266254884915640806627990306816*a6+726838724295606890549323807888004534353641360687318060281490199180639288113397923326191050713763565560762521606266177933534601628614656*a7) / 2^256%18446744073709551616=a4:=by omega
 have e5:(a0+18446744073709551616*a1+340282366920938463463374607431768211456*a2+6277101735386680763835789423207666416102355444464034512896*a3+2^256*a4+2135987035920910082395021706169552114602704522356652769947041607822219725780640550022962086936576*a5+39402006196394479212279040100143613805079739270465446667948293404245721771497210611414266254884915640806627990306816*a6+726838724295606890549323807888004534353641360687318060281490199180639288113397923326191050713763565560762521606266177933534601628614656*a7) / 2135987035920910082395021706169552114602704522356652769947041607822219725780640550022962086936576%18446744073709551616=a5:=by omega
 have e6:(a0+18446744073709551616*a1+340282366920938463463374607431768211456*a2+6277101735386680763835789423207666416102355444464034512896*a3+2^256*a4+2135987035920910082395021706169552114602704522356652769947041607822219725780640550022962086936576*a5+39402006196394479212279040100143613805079739270465446667948293404245721771497210611414266254884915640806627990306816*a6+726838724295606890549323807888004534353641360687318060281490199180639288113397923326191050713763565560762521606266177933534601628614656*a7) / 39402006196394479212279040100143613805079739270465446667948293404245721771497210611414266254884915640806627990306816%18446744073709551616=a6:=by omega
 have e7:(a0+18446744073709551616*a1+340282366920938463463374607431768211456*a2+6277101735386680763835789423207666416102355444464034512896*a3+2^256*a4+2135987035920910082395021706169552114602704522356652769947041607822219725780640550022962086936576*a5+39402006196394479212279040100143613805079739270465446667948293404245721771497210611414266254884915640806627990306816*a6+726838724295606890549323807888004534353641360687318060281490199180639288113397923326191050713763565560762521606266177933534601628614656*a7) / 726838724295606890549323807888004534353641360687318060281490199180639288113397923326191050713763565560762521606266177933534601628614656%18446744073709551616=a7:=by omega
 rw[e0,e1,e2,e3,e4,e5,e6,e7]
theorem n4_mul(a0 a1 a2 a3 b0 b1 b2 b3:Nat):n4 a0 a1 a2 a3*n4 b0 b1 b2 b3 =
  a0*b0+18446744073709551616*(a0*b1)+340282366920938463463374607431768211456*(a0*b2)+6277101735386680763835789423207666416102355444464034512896*(a0*b3)+18446744073709551616*(a1*b0)+340282366920938463463374607431768211456*(a1*b1)+6277101735386680763835789423207666416102355444464034512896*(a1*b2)+2^256*(a1*b3)+340282366920938463463374607431768211456*(a2*b0)+6277101735386680763835789423207666416102355444464034512896*(a2*b1)+2^256*(a2*b2)+2135987035920910082395021706169552114602704522356652769947041607822219725780640550022962086936576*(a2*b3)+6277101735386680763835789423207666416102355444464034512896*(a3*b0)+2^256*(a3*b1)+2135987035920910082395021706169552114602704522356652769947041607822219725780640550022962086936576*(a3*b2)+39402006196394479212279040100143613805079739270465446667948293404245721771497210611414266254884915640806627990306816*(a3*b3):=by
 unfold n4
 grind
open Go.RowKit
theorem of_walk(n:Nat)(w:World) :
  Calls Tryz.prog 69 #[.int .u64 n] w fun e w'=>e=.returned (.agg #[.int .u64 n,.int .u64 0,.int .u64 0,.int .u64 0])/\Below w.heap.size w w':=by
 go_enter Tryz.func69,Tryz.ntmps69;go_wp2
 go_returns
 exact⟨rfl,by go_grown⟩
theorem arrayAt4(b o c:Nat)(w:World):(Instr.arrayAt 24 (.slice (some ⟨b,o,none⟩) 4 c)).run Tryz.prog w=.ok (.pointer (some ⟨b,o,none⟩)) w:=by kernel_rfl
-- WHAT product COMES TO.
theorem product_any(x y:Nat)(w:World) :
  Calls Tryz.prog 141 #[wv x,wv y] w fun e w' =>
   e=.returned (dv ((x%2^256)*(y%2^256)))/\Below w.heap.size w w':=by
 obtain⟨a0,a1,a2,a3,u0,u1,u2,u3,ea,na⟩:=wv_parts x;obtain⟨b0,b1,b2,b3,v0,v1,v2,v3,eb,nb⟩:=wv_parts y;obtain⟨p00,c00,lp00,lc00,e00,h00⟩:=mulAdd_ex a0 b0 0 0 u0 v0 (by omega) (by omega);obtain⟨p01,c01,lp01,lc01,e01,h01⟩:=mulAdd_ex a0 b1 0 c00 u0 v1 (by omega) lc00;obtain⟨p02,c02,lp02,lc02,e02,h02⟩:=mulAdd_ex a0 b2 0 c01 u0 v2 (by omega) lc01;obtain⟨p03,c03,lp03,lc03,e03,h03⟩:=mulAdd_ex a0 b3 0 c02 u0 v3 (by omega) lc02;obtain⟨p10,c10,lp10,lc10,e10,h10⟩:=mulAdd_ex a1 b0 p01 0 u1 v0 lp01 (by omega);obtain⟨p11,c11,lp11,lc11,e11,h11⟩:=mulAdd_ex a1 b1 p02 c10 u1 v1 lp02 lc10;obtain⟨p12,c12,lp12,lc12,e12,h12⟩:=mulAdd_ex a1 b2 p03 c11 u1 v2 lp03 lc11;obtain⟨p13,c13,lp13,lc13,e13,h13⟩:=mulAdd_ex a1 b3 c03 c12 u1 v3 lc03 lc12;obtain⟨p20,c20,lp20,lc20,e20,h20⟩:=mulAdd_ex a2 b0 p11 0 u2 v0 lp11 (by omega);obtain⟨p21,c21,lp21,lc21,e21,h21⟩:=mulAdd_ex a2 b1 p12 c20 u2 v1 lp12 lc20;obtain⟨p22,c22,lp22,lc22,e22,h22⟩:=mulAdd_ex a2 b2 p13 c21 u2 v2 lp13 lc21;obtain⟨p23,c23,lp23,lc23,e23,h23⟩:=mulAdd_ex a2 b3 c13 c22 u2 v3 lc13 lc22;obtain⟨p30,c30,lp30,lc30,e30,h30⟩:=mulAdd_ex a3 b0 p21 0 u3 v0 lp21 (by omega);obtain⟨p31,c31,lp31,lc31,e31,h31⟩:=mulAdd_ex a3 b1 p22 c30 u3 v1 lp22 lc30;obtain⟨p32,c32,lp32,lc32,e32,h32⟩:=mulAdd_ex a3 b2 p23 c31 u3 v2 lp23 lc31;obtain⟨p33,c33,lp33,lc33,e33,h33⟩:=mulAdd_ex a3 b3 c23 c32 u3 v3 lc23 lc32;have hs:n8 p00 p10 p20 p30 p31 p32 p33 c33=(x%2^256)*(y%2^256):=by
  rw[<- na,<- nb,n4_mul];clear ea eb na nb h00 h01 h02 h03 h10 h11 h12 h13 h20 h21 h22 h23 h30 h31 h32 h33;generalize a0*b0=m00 at *;generalize a0*b1=m01 at *;generalize a0*b2=m02 at *;generalize a0*b3=m03 at *;generalize a1*b0=m10 at *;generalize a1*b1=m11 at *;generalize a1*b2=m12 at *;generalize a1*b3=m13 at *;generalize a2*b0=m20 at *;generalize a2*b1=m21 at *;generalize a2*b2=m22 at *;generalize a2*b3=m23 at *;generalize a3*b0=m30 at *;generalize a3*b1=m31 at *;generalize a3*b2=m32 at *;generalize a3*b3=m33 at *;clear u0 u1 u2 u3 v0 v1 v2 v3 lp00 lc00 lp01 lc01 lp02 lc02 lp03 lc03 lp10 lc10 lp11 lc11 lp12 lc12 lp13 lc13 lp20 lc20 lp21 lc21 lp22 lc22 lp23 lc23 lp30 lc30 lp31 lc31 lp32 lc32 lp33 lc33;unfold n8;omega
 rw[ea,eb,<- hs,dv_n8 lp00 lp10 lp20 lp30 lp31 lp32 lp33 lc33];exact product_walk a0 a1 a2 a3 b0 b1 b2 b3 p00 c00 p01 c01 p02 c02 p03 c03 p10 c10 p11 c11 p12 c12 p13 c13 p20 c20 p21 c21 p22 c22 p23 c23 p30 c30 p31 c31 p32 c32 p33 c33 w h00 h01 h02 h03 h10 h11 h12 h13 h20 h21 h22 h23 h30 h31 h32 h33
open Go.RowKit
def np(xs:Nat->Nat):Nat->Nat
 | 0=>0
 | n+1=>if xs n=0 then np xs n else n+1
theorem parts_any(b o L cap:Nat)(xs:Nat->Nat)(hL:(L:Int)<=1000000)(w:World)
  (hc:∀ j,j<L->w.cell? ⟨b,o+j,none⟩=some (.int .u64 (xs j))) :
  Calls Tryz.prog 145 #[.slice (some ⟨b,o,none⟩) L cap] w fun e w'=>e=.returned (.int .i64 (np xs L:Nat))/\w=w':=by
 have HC:=Lib.hid hc;clear hc;go_enter Tryz.func145,Tryz.ntmps145;go_wp2
 go_loop [3] (fun n=>∃ k:Nat,k<=L/\n=.int .i64 k/\Hid (np xs k=np xs L)) (fun n=>(intOf n).toNat)
 case atStart=>exact⟨L,Nat.le_refl _,rfl,Lib.hid rfl⟩
 case round =>
  obtain⟨k,hk,rfl,hn⟩:=hrel;have hk':(k:Int)<=1000000:=by omega
  rcases k with _ | j
  ·go_wp2
   go_ret;exact⟨by rw[<- hn.out];rfl,rfl⟩
  ·have hj:(0:Int)<=j:=by omega
   have hj':(j:Int)<=1000000:=by omega
   have c:=HC.out j (by omega);by_cases hx:xs j=0
   ·have hr:np xs j=np xs L:=by rw[<- hn.out];simp[np,hx]
    have HR:=Lib.hid hr;clear hr;rw[hx]at c;clear hn;go_wp2
    go_round
    case rel=>exact⟨j,by omega,rfl,HR⟩
    case measure=>simp[intOf]
   ·have hr:j+1=np xs L:=by rw[<- hn.out];simp[np,hx]
    have HR:=Lib.hid hr;clear hr hn;have hx':((xs j:Int) == 0)=false:=by simp[hx]
    go_wp2;go_ret;exact⟨by rw[<- HR.out];simp,rfl⟩
open Go.RowKit
def val(f:Nat->Nat):Nat->Nat
 | 0=>0
 | n+1=>val f n+18446744073709551616^n*f n
theorem val_congr{f g:Nat->Nat}{n:Nat}(h:∀ j,j<n->f j=g j):val f n=val g n:=by
 induction n with
 | zero=>rfl
 | succ n ih=>simp only[val];rw[ih (fun j hj=>h j (by omega)),h n (by omega)]
structure But (S:Nat) (w w':World):Prop where
 os:w'.os=w.os
 tape:w'.tape=w.tape
 output:w'.output=w.output
 size:w'.heap.size=w.heap.size
 block:∀ k,k≠S->w'.heap[k]?=w.heap[k]?
 frozen:∀ j,w'.frozen? ⟨S,j,none⟩=w.frozen? ⟨S,j,none⟩
theorem But.refl(S:Nat)(w:World):But S w w:=⟨rfl,rfl,rfl,rfl,fun _ _=>rfl,fun _=>rfl⟩
theorem But.set{S:Nat}{w w':World}(h:But S w w')(j:Nat)(u:Value):But S w (w'.setCell ⟨S,j,none⟩ u) :=
 ⟨h.os,h.tape,h.output,by simp[h.size],fun k hk=>by rw[Below.heap_setCell _ _ _ _ hk];exact h.block k hk,fun i=>by rw[World.frozen?_setCell];exact h.frozen i⟩
theorem But.trans{S:Nat}{w w' w'':World}(h:But S w w')(h':But S w' w''):But S w w'' :=
 ⟨h'.os.trans h.os,h'.tape.trans h.tape,h'.output.trans h.output,h'.size.trans h.size,fun k hk=>(h'.block k hk).trans (h.block k hk),fun j=>(h'.frozen j).trans (h.frozen j)⟩
theorem But.cell{S:Nat}{w w':World}(h:But S w w'){p:Addr}(hp:p.block≠S):w'.cell? p=w.cell? p:=World.cell?_of_block (w:=w) (h.block p.block hp)
theorem But.below{S B:Nat}{w0 w w':World}(h0:Below B w0 w)(h:But S w w')(hB:B<=S):Below B w0 w' :=
 h0.trans ⟨h.os,h.tape,h.output,by rw[h.size];exact Nat.le_refl _,fun k hk=>h.block k (by omega)⟩
def Holds(S o k:Nat)(ns:Nat->Nat)(w w':World):Prop:=But S w w'/\∀ j,w'.cell? ⟨S,j,none⟩=if o<=j/\j<o+k then some (.int .u64 (ns (j - o):Nat))else w.cell? ⟨S,j,none⟩
theorem Holds.start(S o:Nat)(ns:Nat->Nat)(w:World):Holds S o 0 ns w w:=⟨But.refl S w,fun j=>by rw[if_neg (by omega)]⟩
theorem Holds.next{S o k:Nat}{ns:Nat->Nat}{w w':World}(h:Holds S o k ns w w')(s:Nat)(hs:(w.cell? ⟨S,o+k,none⟩).isSome=true) :
  Holds S o (k+1) (fun j=>if j=k then s else ns j) w (w'.setCell ⟨S,o+k,none⟩ (.int .u64 s)):=by
 refine⟨h.1.set _ _,fun j=>?_⟩;by_cases hj:j=o+k
 ·subst hj
  have h1:(w'.cell? ⟨S,o+k,none⟩).isSome=true:=by rw[h.2,if_neg (by omega)];exact hs
  obtain⟨v,hv⟩:=Option.isSome_iff_exists.1 h1;rw[if_pos (by omega),World.cell?_setCell_same _ _ _ hv];simp
 ·rw[World.cell?_setCell_other _ _ _ _ (by intro e;apply hj;injection e with _ e2;exact e2.symm)]
  rw[h.2 j];by_cases h1:o<=j/\j<o+k
  ·rw[if_pos h1,if_pos (by omega)]
   simp only[];rw[if_neg (by omega)]
  ·rw[if_neg h1,if_neg (by omega)]
def TakePost(S o n part:Nat)(r d:Nat->Nat)(w:World)(e:Ending)(w':World):Prop :=
 ∃(ns:Nat->Nat) (debt:Nat),e=.returned (.int .u64 debt)/\debt<=1/\(∀ j,j<n+1->ns j<18446744073709551616) /\
  val ns (n+1)+part*val d n=val r (n+1)+18446744073709551616^(n+1)*debt/\Holds S o (n+1) ns w w'
theorem take_step{P x rk t s c c' b b' m dk N R V:Nat}(h:N+V=R+P*(c+b))(h1:t+18446744073709551616*c'=m+c)(h2:s+t+b=rk+18446744073709551616*b')(hm:m=dk*x) :
  N+P*s+(V+P*(dk*x))=R+P*rk+P*18446744073709551616*(c'+b'):=by
 subst hm;have e1:P*t+P*(18446744073709551616*c')=P*(dk*x)+P*c:=by rw[<- Nat.mul_add,<- Nat.mul_add,h1]
 have e2:P*s+P*t+P*b=P*rk+P*(18446744073709551616*b'):=by rw[<- Nat.mul_add,<- Nat.mul_add,<- Nat.mul_add,h2]
 have e3:P*18446744073709551616*(c'+b')=P*(18446744073709551616*c')+P*(18446744073709551616*b'):=by grind
 have e4:P*(c+b)=P*c+P*b:=Nat.mul_add _ _ _;omega
theorem take_any(S o capS D capD n part:Nat)(r d:Nat->Nat)(hn:(n:Int)<=1000)(hr:∀ j,j<n+1->r j<18446744073709551616)(hd:∀ j,j<n->d j<18446744073709551616)
  (hp:part<18446744073709551616) (hSD:D≠S) (w:World)
  (hs:∀ j,j<n+1->w.cell? ⟨S,o+j,none⟩=some (.int .u64 (r j))) (hf:∀ j,j<n+1->w.frozen? ⟨S,o+j,none⟩=false)
  (hc:∀ j,j<n->w.cell? ⟨D,j,none⟩=some (.int .u64 (d j))) :
  Calls Tryz.prog 157 #[.slice (some ⟨S,o,none⟩) ((n+1:Nat)) capS,.slice (some ⟨D,0,none⟩) n capD,.int .u64 part] w (TakePost S o n part r d w):=by
 have HR:=Lib.hid hr;clear hr;have HD:=Lib.hid hd;clear hd;have HS:=Lib.hid hs;clear hs;have HF:=Lib.hid hf;clear hf;have HC:=Lib.hid hc;clear hc;have HN:=Lib.hid hSD;clear hSD;have HP:=Lib.hid hp;clear hp;go_enter Tryz.func157,Tryz.ntmps157;go_wp2
 go_loopw [7,8,14] (fun c b i wr=>∃(k cn bn:Nat) (ns:Nat->Nat),k<=n/\c=.int .u64 cn/\b=.int .u64 bn/\i=.int .i64 k/\Hid (cn<18446744073709551616/\bn<=1/\(∀ j,j<k->ns j<18446744073709551616)/\val ns k+val d k*part=val r k+18446744073709551616^k*(cn+bn)/\Holds S o k ns w wr)) (fun _ _ i _=>n - (intOf i).toNat)
 case atStart=>exact⟨0,0,0,r,Nat.zero_le _,rfl,rfl,rfl,Lib.hid ⟨by omega,by omega,fun j hj=>by omega,by simp[val],Holds.start S o r w⟩⟩
 case round =>
  obtain⟨k,cn,bn,ns,hk,rfl,rfl,rfl,H⟩:=hrel;have hk0:(0:Int)<=k:=by omega
  have hk1:(k:Int)<=1000:=by omega
  by_cases hlt:k<n
  ·obtain⟨tn,c',lt,lc,et,hM⟩:=mulAdd_ex (d k) part 0 cn (HD.out k hlt) HP.out (by omega) H.out.1
   obtain⟨sn,b',lb,ls,es,hSu⟩:=sub64_ex (r k) tn bn (HR.out k (by omega)) lt H.out.2.1;have cd:wr.cell? ⟨D,k,none⟩=some (.int .u64 (d k)):=by rw[H.out.2.2.2.2.1.cell (p:=⟨D,k,none⟩) HN.out];exact HC.out k hlt
   have cs:wr.cell? ⟨S,o+k,none⟩=some (.int .u64 (r k)):=by rw[H.out.2.2.2.2.2 (o+k),if_neg (by omega)];exact HS.out k (by omega)
   have cf:wr.frozen? ⟨S,o+k,none⟩=false:=by rw[H.out.2.2.2.2.1.frozen];exact HF.out k (by omega)
   have ET:=Lib.hid et;clear et;have ES:=Lib.hid es;clear es;have HM:=Lib.hid hM;clear hM
   go_wp2_with fail
   refine(HM.out _).mono ?_;rintro e w' ⟨rfl,rfl⟩;go_wp2
   go_roundw
   case rel =>
    refine⟨k+1,c',b',fun j=>if j=k then sn else ns j,by omega,rfl,rfl,by go_num,Lib.hid ⟨lc,lb,fun j hj=>?_,?_,H.out.2.2.2.2.next sn (by rw[HS.out k (by omega)];rfl)⟩⟩
    ·by_cases h:j=k
     ·simp only[h,if_true];exact ls
     ·simp only[h,if_false];exact H.out.2.2.1 j (by omega)
    ·have e1:val (fun j=>if j=k then sn else ns j) k=val ns k:=val_congr (fun j hj=>by simp only[show ¬j=k by omega,if_false])
     simp only[val,e1,if_true];have hm:d k*part=d k*part:=rfl;have:=take_step (P:=18446744073709551616^k) (x:=part) (dk:=d k) (N:=val ns k) (V:=val d k*part) H.out.2.2.2.1 (by rw[ET.out];omega) ES.out hm;rw[Nat.pow_succ,Nat.add_mul,Nat.mul_assoc _ (d k) part];exact this
   case measure=>simp[intOf];omega
  ·obtain rfl:k=n:=by omega
   obtain⟨s1,b1,lb1,ls1,es1,hS1⟩:=sub64_ex (r k) cn bn (HR.out k (by omega)) H.out.1 H.out.2.1;have ES:=Lib.hid es1;clear es1;have cs:wr.cell? ⟨S,o+k,none⟩=some (.int .u64 (r k)):=by rw[H.out.2.2.2.2.2 (o+k),if_neg (by omega)];exact HS.out k (by omega)
   have cf:wr.frozen? ⟨S,o+k,none⟩=false:=by rw[H.out.2.2.2.2.1.frozen];exact HF.out k (by omega)
   go_wp2;go_ret;refine⟨fun j=>if j=k then s1 else ns j,b1,rfl,lb1,fun j hj=>?_,?_,H.out.2.2.2.2.next s1 (by rw[HS.out k (by omega)];rfl)⟩
   ·by_cases h:j=k
    ·simp only[h,if_true];exact ls1
    ·simp only[h,if_false];exact H.out.2.2.1 j (by omega)
   ·have e1:val (fun j=>if j=k then s1 else ns j) k=val ns k:=val_congr (fun j hj=>by simp only[show ¬j=k by omega,if_false])
    simp only[val,e1,if_true];have h0:=H.out.2.2.2.1;have h1:=ES.out;rw[Nat.mul_comm part,Nat.pow_succ,Nat.mul_assoc];have e2:18446744073709551616^k*s1+18446744073709551616^k*cn+18446744073709551616^k*bn=18446744073709551616^k*r k+18446744073709551616^k*(18446744073709551616*b1):=by rw[<- Nat.mul_add,<- Nat.mul_add,<- Nat.mul_add,h1]
    rw[Nat.mul_add]at h0;omega
open Go.RowKit
def ar(k:IntKind)(n:Nat)(f:Nat->Int):Array Value:=((List.range n).map fun j=>Value.int k (f j)).toArray
theorem ar_size(k:IntKind)(n:Nat)(f:Nat->Int):(ar k n f).size=n:=by simp[ar]
theorem ar_at(k:IntKind)(n:Nat)(f:Nat->Int)(j:Nat)(h:j<n):(ar k n f)[j]?=some (.int k (f j)):=by simp[ar,h]
def updI(f:Nat->Int)(p:Nat)(y:Int)(j:Nat):Int:=if j=p then y else f j
theorem ar_set(k:IntKind)(n:Nat)(f:Nat->Int)(p:Nat)(y:Int)(h:p<n):(ar k n f).setIfInBounds p (.int k y)=ar k n (updI f p y):=by
 apply Array.ext
 ·simp[ar]
 ·intro i h1 h2
  have hi:i<n:=by simpa[ar]using h2
  by_cases e:i=p
  ·subst e;simp[ar,updI]
  ·simp[ar,updI,e,Ne.symm e]
theorem ar_congr{k:IntKind}{n:Nat}{f g:Nat->Int}(h:∀ j,j<n->f j=g j):ar k n f=ar k n g:=by
 unfold ar;congr 1;apply List.map_congr_left;intro j hj;rw[h j (by simpa using hj)]
theorem ar_one(k:IntKind)(n:Nat)(f:Nat->Int):(ar k n f).all (·.oneCell')=true:=by simp[ar,Value.oneCell']
theorem index_ar{P:Program}{t e:TypeId}{k:IntKind}{n:Nat}{f:Nat->Int}{i:Nat}(w:World)(ht:P.underlying t=some (.array n e))(hs:(sizeOf e).run P w=.ok 1 w)(ha:(isAgg e).run P w=.ok false w)(h:i<n):(Instr.index t (.agg (ar k n f)) (.int .i64 i)).run P w=.ok (.int k (f i)) w:=by
 have h0:(0:Int)<=i:=by omega
 have h1:¬n<=i:=by omega
 have hc:=ar_at k n f i h;simp[Instr.index,asIntOf,run_underlying ht,part,hs,ha,h0,h1,hc,Result.andThen]
theorem run_loadVar_part{P:Program}(w:World)(g o n:Nat)(ty:TypeId)(k:IntKind)(f:Nat->Int)(d:TypeDesc)(hc:∀ j,j<n->w.cell? ⟨g,o+j,none⟩=some (.int k (f j)))
  (hu:P.underlying ty=some d) (hd:(match d with | .struct _ | .array _ _=>true | _=>false)=true) (hi:(P.info? ty).map (·.size)=some n) :
  (loadVar ty ⟨g,o,none⟩).run P w=.ok (.agg (ar k n f)) w:=by
 have hl:(loadCells ⟨g,o,none⟩ (ar k n f).toList.length).run P w=.ok (ar k n f).toList.toArray w :=
  run_loadCells_list (P:=P) w ⟨g,o,none⟩ (ar k n f).toList (fun j v hv=>by
   have hjn:j<n:=by
    have:=(List.getElem?_eq_some_iff.1 hv).1;rwa [Array.length_toList,ar_size]at this
   have hadd:(⟨g,o,none⟩:Addr).add j=⟨g,o+j,none⟩:=by unfold Addr.add;split <;> simp_all
   rw[hadd,hc j hjn];have h2:=ar_at k n f j hjn;rw[<- Array.getElem?_toList]at h2;rw[<- hv,h2])
 cases hq:P.info? ty with
 | none=>simp[hq]at hi
 | some i =>
  have hs:i.size=n:=by simpa[hq]using hi
  have hagg:(isAgg ty).run P w=.ok true w:=by
   unfold isAgg;rw[Sem.run_bind,run_underlying hu w];cases d <;> simp_all
  simp only[Array.length_toList,Array.toArray_toList,ar_size]at hl;simp[loadVar,Sem.run_bind,hagg,sizeOf,typeInfo,hq,hs,hl]
theorem load_u64(g j:Nat)(y:Int)(w:World)(h:w.cell? ⟨g,j,none⟩=some (.int .u64 y)):(Instr.loadAt 22 (.pointer (some ⟨g,j,none⟩))).run Tryz.prog w=.ok (.int .u64 y) w:=by
 go_simp
theorem store_u64(g j:Nat)(y:Int)(u:Value)(w:World)(h:w.cell? ⟨g,j,none⟩=some u)(hf:w.frozen? ⟨g,j,none⟩=false):(Instr.storeAt 22 (.pointer (some ⟨g,j,none⟩)) (.int .u64 y)).run Tryz.prog w=.ok () (w.setCell ⟨g,j,none⟩ (.int .u64 y)):=by
 go_simp
theorem run_st{P:Program}{a:Act}{o:Oper}{w w':World}(t:TypeId)(p q:Operand)(u v:Value)(ho:o.op=.store t p q)(hp:a.eval p=u)(hq:a.eval q=v)(h:(Instr.storeAt t u v).run P w=.ok () w'):(execOp a.eval o).run P w=.ok .skip w':=by
 unfold execOp;rw[ho];simp only[hp,hq,Sem.run_bind,h,Result.andThen_ok,Sem.run_pure]
theorem arr_lit2(t:Array Value):t=((List.range t.size).map fun i=>t.getD i undef).toArray:=by
 apply Array.ext
 ·simp
 ·intro i h1 h2
  simp[h1]
structure Bt (V:Nat) (w w':World):Prop where
 os:w'.os=w.os
 tape:w'.tape=w.tape
 output:w'.output=w.output
 size:w.heap.size<=w'.heap.size
 block:∀ k,k≠V->k<w.heap.size->w'.heap[k]?=w.heap[k]?
theorem Bt.refl(V:Nat)(w:World):Bt V w w:=⟨rfl,rfl,rfl,Nat.le_refl _,fun _ _ _=>rfl⟩
theorem Bt.below{V B:Nat}{w0 w w':World}(h0:Below B w0 w)(h:Bt V w w')(hB:B<=V)(hl:B<=w.heap.size):Below B w0 w' :=
 h0.trans ⟨h.os,h.tape,h.output,h.size,fun k hk=>h.block k (by omega) (by omega)⟩
theorem Bt.drew{V:Nat}{w w':World}(h:Bt V w w'):Bt V w w'.drew:=⟨h.os,h.tape,h.output,h.size,h.block⟩
theorem Bt.set{V j:Nat}{w w':World}(h:Bt V w w')(v:Value):Bt V w (w'.setCell ⟨V,j,none⟩ v) :=
 ⟨h.os,h.tape,h.output,Nat.le_trans h.size (by simp),fun k hk hl=>(heap_setCell_other _ _ _ _ hk).trans (h.block k hk hl)⟩
theorem wpList_val{P:Program}{ops:Array Oper}{rest:List Oper}{o:Oper}{a:Act}{w w':World}{Q:Exit->Act->World->Prop}(hgd:o.guard=none)(v:Value)(hr:(execOp a.eval o).run P w=.ok (.value v) w')
  (h:wpList P ops Q rest (a.put o.dst v) w'):wpList P ops Q (o::rest) a w :=
 wpList_plain hgd fun _ hK=>by
  unfold Oper.wp;rw[hr];exact hK _ _ h
theorem q_sem2{P:Program}{ops:Array Oper}{C:World->Prop}{Q:Act->Prop}{a:Act}{o:Oper}{rest:List Oper}(s:Sem Value)(v:Value)(hw:Region.wanted o (yielded ops a.tmps)=true)(ho:execOp a.eval o=(do let x <- s;pure (.value x)))(hr:∀ w,C w->s.run P w=.ok v w)(h:wpQuiet P ops C Q rest (a.put o.dst v)):wpQuiet P ops C Q (o::rest) a :=
 q_val v hw (fun w hC=>by rw[ho];simp only[Sem.run_bind,hr w hC,Result.andThen_ok,Sem.run_pure]) h
theorem wpList_ld{P:Program}{ops:Array Oper}{rest:List Oper}{o:Oper}{a:Act}{w:World}{Q:Exit->Act->World->Prop}(hgd:o.guard=none)(T:TypeId)(x:Operand)(ho:o.op=.load T x)(p v:Value)(hp:a.eval x=p)
  (hr:(Instr.loadAt T p).run P w=.ok v w) (h:wpList P ops Q rest (a.put o.dst v) w):wpList P ops Q (o::rest) a w :=
 wpList_val hgd v (by unfold execOp;rw[ho];simp only[hp,Sem.run_bind,hr,Result.andThen_ok,Sem.run_pure]) h
theorem run_nil{P:Program}{a:Act}{o:Oper}{w:World}(x:Operand)(p:Addr)(ho:o.op=.nilCheck x)(hx:a.eval x=.pointer (some p)):(execOp a.eval o).run P w=.ok (.value (.pointer (some p))) w:=by
 unfold execOp;rw[ho];simp only[hx];rfl
theorem run_ext{P:Program}{a:Act}{o:Oper}{w:World}(x:Operand)(i:Nat)(vs:Array Value)(v:Value)(ho:o.op=.extract x i)(hx:a.eval x=.tuple vs)(hv:vs[i]?=some v):(execOp a.eval o).run P w=.ok (.value v) w:=by
 unfold execOp;rw[ho];simp only[hx,Instr.extract,hv];rfl
open Go.RowKit
theorem fmulAdd_walk(x y m c h l s0 d0 s1 d1:Nat)(w:World)
  (hM:∀ w,Calls Tryz.prog 152 #[.int .u64 x,.int .u64 y] w fun e w'=>e=.returned (.tuple #[.int .u64 h,.int .u64 l])/\w=w')
  (h0:∀ w,(callFunc 133 #[.int .u64 l,.int .u64 m,.int .u64 0]).run Tryz.prog w=.ok (.value (.tuple #[.int .u64 s0,.int .u64 d0])) w)
  (h1:∀ w,(callFunc 133 #[.int .u64 s0,.int .u64 c,.int .u64 0]).run Tryz.prog w=.ok (.value (.tuple #[.int .u64 s1,.int .u64 d1])) w)
  (b1:(h:Int)+d0<=18446744073709551615) (b2:(h:Int)+d0+d1<=18446744073709551615) :
  Calls Tryz.prog 143 #[.int .u64 x,.int .u64 y,.int .u64 m,.int .u64 c] w fun e w'=>e=.returned (.tuple #[.int .u64 s1,.int .u64 ((h+d0+d1:Nat):Int)])/\w=w':=by
 go_enter Tryz.func143,Tryz.ntmps143
 go_wp2_with fail
 refine(hM _).mono ?_;rintro e w' ⟨rfl,rfl⟩;go_wp2
 go_ret2
 exact⟨by simp,rfl⟩
theorem fmulAdd_ex(x y m c:Nat)(hx:x<18446744073709551616)(hy:y<18446744073709551616)(hm:m<18446744073709551616)(hc:c<18446744073709551616) :
  ∃ l h:Nat,l<18446744073709551616/\h<18446744073709551616/\l+18446744073709551616*h=x*y+m+c /\
   ∀ w,Calls Tryz.prog 143 #[.int .u64 x,.int .u64 y,.int .u64 m,.int .u64 c] w fun e w'=>e=.returned (.tuple #[.int .u64 l,.int .u64 h])/\w=w':=by
 obtain⟨h,l,lh,ll,e,hM⟩:=mul64_ex x y hx hy;obtain⟨s0,d0,k0,l0,e0,h0⟩:=add64_ex0 l m ll hm;obtain⟨s1,d1,k1,l1,e1,h1⟩:=add64_ex0 s0 c l0 hc;have hb:x*y<=18446744073709551615*18446744073709551615:=Nat.mul_le_mul (by omega) (by omega);have ht:s1+18446744073709551616*(h+d0+d1)=x*y+m+c:=by omega
 have hh:h+d0+d1<18446744073709551616:=by omega
 exact⟨s1,h+d0+d1,l1,hh,ht,fun w=>fmulAdd_walk x y m c h l s0 d0 s1 d1 w hM h0 h1 (by omega) (by omega)⟩
end Go.Proofs.YtadfjjfklihaaaaGreat
